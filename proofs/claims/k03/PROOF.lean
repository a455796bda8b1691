import PyProof.Rows.All
import Wide.All
import OpenK.AllK
import Wide.FinOn
import HandS.ForMost
import HandS.Evl
import HandS.IsInst
import KE.GoesEnum
import PyProof.EnumMake
import KE.KDictSum
import HandS.Conv
import HandS.ExcOwn
import HandS.ExcValue
import HandS.Zip
import HandS.Star
import HandS.Text
import HandS.DictComp
import HandS.Strs
import PyProof.Rows.SetFrom
import HandS.SetKeys
import HandS.Rev
import HandS.Wide
import HandS.Gcd
import HandS.FStr
import HandS.ExcCtx
import HandS.ExcIs
import HandS.HotCalls
import HandS.ExcInit
import HandS.ExcField
import KE.KExcIs
import PyProof.Rows.StrMeet
import HandS.Deep
import HandS.TupAny
import HandS.Comp
import HandS.List
import PySem.Challenge.RW_cubesums_k03_dimensions_refused
set_option Elab.async false
set_option linter.all false
set_option maxRecDepth 100000
set_option maxHeartbeats 2000000
/-! ZBase: values by what they say. A frozen heap G within the heap H, cells of slots (frozen data, or a list that the frame alone changes), what an expression, a test, a row of arguments, a statement comes to, told over cells alone. -/
namespace Z
open PySem L2
open Evl (Ex Ex.refl Ex.trans Ex.new ex_rd ex_l ex_t sq_of st_of fresh_back)

inductive D where
  | non
  | bl (b : Bool)
  | int (i : Int)
  | str (x : Str)
  | lst (l : List D)
  | tup (l : List D)
  | dK (l : List (Key × D))
  | dT (l : List (List Key × D))
  | ins (C : Addr) (l : List (Str × D))
  | rng (lo hi : Int)
  | tupf (l : List D)

/-- a tuple of tuples -/
def Heads (ds : List D) : Prop := ∃ es r, ds = .tup es :: r
/-- the tuple (0, 1) of the module's own -/
def KPair (K : PySem.W.Frag) (a : Addr) : Prop := ∃ (o : Obj) (its : Array Value) (n : Nat), K.lookup a = some o ∧ o.cls = .type "tuple" ∧ o.data = .seq its n ∧ its.size ≤ sizeLine ∧ Vals [.int 0, .int 1] its.toList
section
variable (K : PySem.W.Frag)
mutual
inductive Dz (H : Hp) : V → D → Prop
  | non : Dz H .non .non
  | bl (b : Bool) : Dz H (.bl b) (.bl b)
  | int (i : Int) : Dz H (.int i) (.int i)
  | str (x : Str) : Dz H (.str x) (.str x)
  | lst {a : Addr} {xs : List V} {ds : List D} : SqL K H a xs → Dzs H xs ds → Dz H (.ref a) (.lst ds)
  | tup {a : Addr} {xs : List V} {ds : List D} : H a = some (.tup xs) → Dzs H xs ds → Dz H (.ref a) (.tup ds)
  | zt {a : Addr} : KPair K a → Dz H (.ref a) (.tup [.int 0, .int 1])
  | dK {a : Addr} {xs : List (Key × V)} {ds : List (Key × D)} : H a = some (.dK xs) → DzP H xs ds → Dz H (.ref a) (.dK ds)
  | dT {a : Addr} {xs : List (List Key × V)} {ds : List (List Key × D)} : H a = some (.dT xs) → DzT H xs ds → Dz H (.ref a) (.dT ds)
  | ins {a C dx : Addr} {xs : List (Str × V)} {ds : List (Str × D)} : H a = some (.ins C dx xs) → DzF H xs ds → Dz H (.ref a) (.ins C ds)
  | rng {a : Addr} {lo hi : Int} : H a = some (.rng lo hi) → Dz H (.ref a) (.rng lo hi)
  | ft {a : Addr} {o : Obj} {xs : List V} {ds : List D} : H a = some (.frz o (.tup xs)) → Heads ds → Dzs H xs ds → Dz H (.ref a) (.tup ds)
  | tupf {a : Addr} {o : Obj} {xs : List V} {ds : List D} : H a = some (.frz o (.tup xs)) → o.cls = .type "tuple" → o.dict = none → Heads ds → Dzs H xs ds → Dz H (.ref a) (.tupf ds)
inductive Dzs (H : Hp) : List V → List D → Prop
  | nil : Dzs H [] []
  | cons {v : V} {d : D} {xs : List V} {ds : List D} : Dz H v d → Dzs H xs ds → Dzs H (v :: xs) (d :: ds)
inductive DzP (H : Hp) : List (Key × V) → List (Key × D) → Prop
  | nil : DzP H [] []
  | cons {k : Key} {v : V} {d : D} {xs : List (Key × V)} {ds : List (Key × D)} : Dz H v d → DzP H xs ds → DzP H ((k, v) :: xs) ((k, d) :: ds)
inductive DzT (H : Hp) : List (List Key × V) → List (List Key × D) → Prop
  | nil : DzT H [] []
  | cons {k : List Key} {v : V} {d : D} {xs : List (List Key × V)} {ds : List (List Key × D)} : Dz H v d → DzT H xs ds → DzT H ((k, v) :: xs) ((k, d) :: ds)
inductive DzF (H : Hp) : List (Str × V) → List (Str × D) → Prop
  | nil : DzF H [] []
  | cons {k : Str} {v : V} {d : D} {xs : List (Str × V)} {ds : List (Str × D)} : Dz H v d → DzF H xs ds → DzF H ((k, v) :: xs) ((k, d) :: ds)
end
end

section
variable {K : PySem.W.Frag} {H H' : Hp}
mutual
theorem Dz.mono (e : Ex H H') : ∀ {v : V} {d : D}, Dz K H v d → Dz K H' v d
  | _, _, .non => .non
  | _, _, .bl b => .bl b
  | _, _, .int i => .int i
  | _, _, .str x => .str x
  | _, _, .lst h hs => .lst (ex_l e h) (Dzs.mono e hs)
  | _, _, .tup h hs => .tup (e _ _ h) (Dzs.mono e hs)
  | _, _, .zt h => .zt h
  | _, _, .dK h hs => .dK (e _ _ h) (DzP.mono e hs)
  | _, _, .dT h hs => .dT (e _ _ h) (DzT.mono e hs)
  | _, _, .ins h hs => .ins (e _ _ h) (DzF.mono e hs)
  | _, _, .rng h => .rng (e _ _ h)
  | _, _, .ft h hd hs => .ft (e _ _ h) hd (Dzs.mono e hs)
  | _, _, .tupf h hc hn hd hs => .tupf (e _ _ h) hc hn hd (Dzs.mono e hs)
theorem Dzs.mono (e : Ex H H') : ∀ {xs : List V} {ds : List D}, Dzs K H xs ds → Dzs K H' xs ds
  | _, _, .nil => .nil
  | _, _, .cons h hs => .cons (Dz.mono e h) (Dzs.mono e hs)
theorem DzP.mono (e : Ex H H') : ∀ {xs : List (Key × V)} {ds : List (Key × D)}, DzP K H xs ds → DzP K H' xs ds
  | _, _, .nil => .nil
  | _, _, .cons h hs => .cons (Dz.mono e h) (DzP.mono e hs)
theorem DzT.mono (e : Ex H H') : ∀ {xs : List (List Key × V)} {ds : List (List Key × D)}, DzT K H xs ds → DzT K H' xs ds
  | _, _, .nil => .nil
  | _, _, .cons h hs => .cons (Dz.mono e h) (DzT.mono e hs)
theorem DzF.mono (e : Ex H H') : ∀ {xs : List (Str × V)} {ds : List (Str × D)}, DzF K H xs ds → DzF K H' xs ds
  | _, _, .nil => .nil
  | _, _, .cons h hs => .cons (Dz.mono e h) (DzF.mono e hs)
end
theorem Dzs.len : ∀ {xs : List V} {ds : List D}, Dzs K H xs ds → xs.length = ds.length
  | _, _, .nil => rfl
  | _, _, .cons _ hs => congrArg (· + 1) hs.len
theorem Dzs.get : ∀ {xs : List V} {ds : List D} {i : Nat} {d : D}, Dzs K H xs ds → ds[i]? = some d → ∃ v, xs[i]? = some v ∧ Dz K H v d
  | _, _, 0, _, .cons h _, e => ⟨_, rfl, by have q := Option.some.inj e; subst q; exact h⟩
  | _, _, i + 1, d, .cons (xs := xs) (ds := ds) _ hs, e => Dzs.get (i := i) hs (by simpa using e)
theorem Dzs.app : ∀ {xs ys : List V} {ds es : List D}, Dzs K H xs ds → Dzs K H ys es → Dzs K H (xs ++ ys) (ds ++ es)
  | _, _, _, _, .nil, h => h
  | _, _, _, _, .cons h hs, k => .cons h (hs.app k)
theorem Dzs.snoc {xs : List V} {ds : List D} {v : V} {d : D} (h : Dzs K H xs ds) (k : Dz K H v d) : Dzs K H (xs ++ [v]) (ds ++ [d]) := h.app (.cons k .nil)
theorem Dzs.drop : ∀ {xs : List V} {ds : List D} (n : Nat), Dzs K H xs ds → Dzs K H (xs.drop n) (ds.drop n)
  | _, _, 0, h => h
  | _, _, n + 1, .nil => .nil
  | _, _, n + 1, .cons _ hs => hs.drop n
theorem Dzs.take : ∀ {xs : List V} {ds : List D} (n : Nat), Dzs K H xs ds → Dzs K H (xs.take n) (ds.take n)
  | _, _, 0, _ => .nil
  | _, _, n + 1, .nil => .nil
  | _, _, n + 1, .cons h hs => .cons h (hs.take n)
theorem Dzs.set : ∀ {xs : List V} {ds : List D} {v : V} {d : D} (i : Nat), Dzs K H xs ds → Dz K H v d → Dzs K H (xs.set i v) (ds.set i d)
  | _, _, _, _, _, .nil, _ => .nil
  | _, _, _, _, 0, .cons _ hs, k => .cons k hs
  | _, _, _, _, i + 1, .cons h hs, k => .cons h (hs.set i k)
theorem Dz.int_inv {v : V} {i : Int} : Dz K H v (.int i) → v = .int i | .int _ => rfl
theorem Dz.bl_inv {v : V} {b : Bool} : Dz K H v (.bl b) → v = .bl b | .bl _ => rfl
theorem Dz.str_inv {v : V} {x : Str} : Dz K H v (.str x) → v = .str x | .str _ => rfl
theorem Dz.non_inv {v : V} : Dz K H v .non → v = .non | .non => rfl
theorem Dz.lst_inv {v : V} {ds : List D} : Dz K H v (.lst ds) → ∃ a xs, v = .ref a ∧ SqL K H a xs ∧ Dzs K H xs ds | .lst h hs => ⟨_, _, rfl, h, hs⟩
theorem Dz.dK_inv {v : V} {ds : List (Key × D)} : Dz K H v (.dK ds) → ∃ a xs, v = .ref a ∧ H a = some (.dK xs) ∧ DzP K H xs ds | .dK h hs => ⟨_, _, rfl, h, hs⟩
theorem Dz.ins_inv {v : V} {C : Addr} {ds : List (Str × D)} : Dz K H v (.ins C ds) → ∃ a dx xs, v = .ref a ∧ H a = some (.ins C dx xs) ∧ DzF K H xs ds | .ins h hs => ⟨_, _, _, rfl, h, hs⟩
theorem Dz.tup_at {v : V} {ds : List D} (hd : Dz K H v (.tup ds)) (hz : ds ≠ [.int 0, .int 1] ∧ ¬ Heads ds) : ∃ a xs, v = .ref a ∧ H a = some (.tup xs) ∧ Dzs K H xs ds := by
  cases hd with
  | tup h hs => exact ⟨_, _, rfl, h, hs⟩
  | zt h => exact absurd rfl hz.1
  | ft _ h _ => exact absurd h hz.2
theorem Dz.tup_inv {v : V} {ds : List D} (h : Dz K H v (.tup ds)) : ∃ a xs, v = .ref a ∧ SqT K H a xs ∧ Dzs K H xs ds := by
  cases h with
  | tup h hs => exact ⟨_, _, rfl, st_of h, hs⟩
  | zt h => exact ⟨_, _, rfl, .inr h, .cons (.int 0) (.cons (.int 1) .nil)⟩
  | ft h _ hs => exact ⟨_, _, rfl, .inl (.inr ⟨_, h⟩), hs⟩
/-- what is read at once: data, or a tuple of the module's own -/
inductive DzR (K : PySem.W.Frag) (H : Hp) (v : V) (d : D) : Prop
  | dz (h : Dz K H v d)
  | kept {a : Addr} {xs : List V} {ds : List D} (hv : v = .ref a) (hd : d = .tup ds) (h : SqT K H a xs) (hs : Dzs K H xs ds)
theorem DzR.tup_inv {v : V} {ds : List D} (h : DzR K H v (.tup ds)) : ∃ a xs, v = .ref a ∧ SqT K H a xs ∧ Dzs K H xs ds := by
  cases h with
  | dz h => exact h.tup_inv
  | kept hv hd h hs => cases hd; exact ⟨_, _, hv, h, hs⟩
theorem DzR.lst_inv {v : V} {ds : List D} (h : DzR K H v (.lst ds)) : ∃ a xs, v = .ref a ∧ SqL K H a xs ∧ Dzs K H xs ds := by
  cases h with
  | dz h => exact h.lst_inv
  | kept hv hd h hs => cases hd
theorem DzR.int_inv {v : V} {i : Int} (h : DzR K H v (.int i)) : v = .int i := by
  cases h with
  | dz h => exact h.int_inv
  | kept hv hd h hs => cases hd
theorem DzR.bl_inv {v : V} {i : Bool} (h : DzR K H v (.bl i)) : v = .bl i := by
  cases h with
  | dz h => exact h.bl_inv
  | kept hv hd h hs => cases hd
theorem DzR.str_inv {v : V} {i : Str} (h : DzR K H v (.str i)) : v = .str i := by
  cases h with
  | dz h => exact h.str_inv
  | kept hv hd h hs => cases hd
theorem DzR.non_inv {v : V} (h : DzR K H v .non) : v = .non := by
  cases h with
  | dz h => exact h.non_inv
  | kept hv hd h hs => cases hd
/-- lists of flat things -/
theorem Dzs.ints : ∀ {xs : List V} {is : List Int}, Dzs K H xs (is.map D.int) → xs = is.map V.int
  | _, [], .nil => rfl
  | _, i :: is, .cons h hs => by rw [h.int_inv, hs.ints]; rfl
theorem Dzs.strs : ∀ {xs : List V} {is : List Str}, Dzs K H xs (is.map D.str) → xs = is.map V.str
  | _, [], .nil => rfl
  | _, i :: is, .cons h hs => by rw [h.str_inv, hs.strs]; rfl
theorem Dzs.bls : ∀ {xs : List V} {is : List Bool}, Dzs K H xs (is.map D.bl) → xs = is.map V.bl
  | _, [], .nil => rfl
  | _, i :: is, .cons h hs => by rw [h.bl_inv, hs.bls]; rfl
theorem Dzs.of_ints : ∀ (is : List Int), Dzs K H (is.map V.int) (is.map D.int)
  | [] => .nil
  | i :: is => .cons (.int i) (Dzs.of_ints is)
theorem Dzs.of_strs : ∀ (is : List Str), Dzs K H (is.map V.str) (is.map D.str)
  | [] => .nil
  | i :: is => .cons (.str i) (Dzs.of_strs is)
end

/-- what an object that the frame alone changes holds -/
inductive MO where
  | lst (ds : List D)
  | dK (ds : List (Key × D))
  | dT (ds : List (List Key × D))
  | ins (C : Addr) (ds : List (Str × D))
def MO.d : MO → D
  | .lst ds => .lst ds
  | .dK ds => .dK ds
  | .dT ds => .dT ds
  | .ins C ds => .ins C ds
def MOk (K : PySem.W.Frag) (G : Hp) : HO → MO → Prop
  | .lst vs, .lst ds => Dzs K G vs ds
  | .dK vs, .dK ds => DzP K G vs ds
  | .dT vs, .dT ds => DzT K G vs ds
  | .ins C _ vs, .ins C' ds => C = C' ∧ DzF K G vs ds
  | _, _ => False
theorem MOk.mono {K : PySem.W.Frag} {G G' : Hp} (e : Ex G G') {o : HO} {m : MO} (h : MOk K G o m) : MOk K G' o m := by
  cases o <;> cases m <;> simp only [MOk] at h ⊢
  · exact h.mono e
  · exact h.mono e
  · exact h.mono e
  · exact ⟨h.1, h.2.mono e⟩
theorem MOk.dz {K : PySem.W.Frag} {G : Hp} {o : HO} {m : MO} {p : Addr} (h : MOk K G o m) (hp : G p = some o) : Dz K G (.ref p) m.d := by
  cases o <;> cases m <;> simp only [MOk] at h
  · exact .lst (sq_of hp) h
  · exact .dK hp h
  · exact .dT hp h
  · obtain ⟨rfl, h⟩ := h
    exact .ins hp h
/-- a slot's cell: nothing known; frozen data; an object that the frame alone changes -/
inductive Cell where
  | no
  | fr (d : D)
  | mu (m : MO)
abbrev Cell.own (ds : List D) : Cell := .mu (.lst ds)
abbrev Rho := List Cell
abbrev MS := Addr → Prop

structure Grow (M : MS) (G H G' H' : Hp) : Prop where
  g : Ex G G'
  k : ∀ a o, ¬ M a → H a = some o → H' a = some o
  n : ∀ a, ¬ M a → H a ≠ none → G a = none → G' a = none
  d : ∀ a, H' a = none → H a = none
theorem Grow.refl {M : MS} {G H : Hp} : Grow M G H G H := ⟨Ex.refl _, fun _ _ _ h => h, fun _ _ _ h => h, fun _ h => h⟩
theorem Grow.trans {M : MS} {G H G1 H1 G2 H2 : Hp} (a : Grow M G H G1 H1) (b : Grow M G1 H1 G2 H2) : Grow M G H G2 H2 :=
  ⟨a.g.trans b.g, fun x o m h => b.k x o m (a.k x o m h), fun x m h g => b.n x m (by
    cases e : H x with
    | none => exact absurd e h
    | some o => rw [a.k x o m e]; simp) (a.n x m h g), fun x h => a.d x (b.d x h)⟩
theorem Grow.wk {M M' : MS} {G H G' H' : Hp} (h : Grow M G H G' H') (m : ∀ a, H a ≠ none → M a → M' a) : Grow M' G H G' H' :=
  ⟨h.g, fun a o n e => h.k a o (fun q => n (m a (by rw [e]; simp) q)) e, fun a n e g => h.n a (fun q => n (m a e q)) e g, h.d⟩
theorem upd_none {H : Hp} {p a : Addr} {o : HO} (h : upd H p o a = none) : H a = none := by
  by_cases q : a = p
  · subst q; rw [upd_same] at h; cases h
  · rw [upd_ne q] at h; exact h
/-- something new, frozen or not -/
theorem Grow.new {M : MS} {G H : Hp} {p : Addr} {o : HO} (hp : H p = none) (s : Ex G H) : Grow M G H (upd G p o) (upd H p o) := by
  have gp : G p = none := fresh_back s hp
  refine ⟨Ex.new gp, fun a u _ e => ?_, fun a _ e g => ?_, fun a e => upd_none e⟩
  · rw [upd_ne (ne_of_none e hp)]; exact e
  · have q : a ≠ p := fun z => by rw [z] at e; exact e hp
    rw [upd_ne q]; exact g
theorem Grow.newO {M : MS} {G H : Hp} {p : Addr} {o : HO} (hp : H p = none) : Grow M G H G (upd H p o) := by
  refine ⟨Ex.refl _, fun a u _ e => ?_, fun a _ e g => g, fun a e => upd_none e⟩
  rw [upd_ne (ne_of_none e hp)]; exact e

structure Sim (K : PySem.W.Frag) (M : MS) (G H : Hp) (σ : L2.St) (ρ : Rho) : Prop where
  len : σ.length = ρ.length
  sub : Ex G H
  fr : ∀ {i : Nat} {d : D}, ρ[i]? = some (.fr d) → ∃ v, σ[i]? = some (some v) ∧ Dz K G v d
  mu : ∀ {i : Nat} {m : MO}, ρ[i]? = some (.mu m) → ∃ p o, σ[i]? = some (some (.ref p)) ∧ M p ∧ G p = none ∧ H p = some o ∧ MOk K G o m
  apart : ∀ {i j : Nat} {m n : MO} {p : Addr}, i ≠ j → ρ[i]? = some (.mu m) → ρ[j]? = some (.mu n) → σ[i]? = some (some (.ref p)) → σ[j]? ≠ some (some (.ref p))

section
variable {K : PySem.W.Frag} {M M' : MS} {G H G' H' : Hp} {σ : L2.St} {ρ ρ' : Rho}
theorem mok_lst {o : HO} {ds : List D} (h : MOk K G o (.lst ds)) : ∃ vs, o = .lst vs ∧ Dzs K G vs ds := by
  cases o <;> first | exact ⟨_, rfl, h⟩ | exact h.elim
theorem mok_dK {o : HO} {ds : List (Key × D)} (h : MOk K G o (.dK ds)) : ∃ vs, o = .dK vs ∧ DzP K G vs ds := by
  cases o <;> first | exact ⟨_, rfl, h⟩ | exact h.elim
theorem mok_ins {o : HO} {C : Addr} {ds : List (Str × D)} (h : MOk K G o (.ins C ds)) : ∃ dx vs, o = .ins C dx vs ∧ DzF K G vs ds := by
  cases o <;> first | exact ⟨_, _, by rw [h.1], h.2⟩ | exact h.elim
theorem Sim.own (S : Sim K M G H σ ρ) {i : Nat} {ds : List D} (h : ρ[i]? = some (.own ds)) : ∃ p vs, σ[i]? = some (some (.ref p)) ∧ M p ∧ G p = none ∧ H p = some (.lst vs) ∧ Dzs K G vs ds := by
  obtain ⟨p, o, e, m, g, hp, k⟩ := S.mu h
  obtain ⟨vs, rfl, k⟩ := mok_lst k
  exact ⟨p, vs, e, m, g, hp, k⟩
/-- a growth that leaves the own objects -/
theorem Sim.grow (S : Sim K M G H σ ρ) (s : Ex G' H') (g : Ex G G') (hk : ∀ (p : Addr) (m : MO) (i : Nat), ρ[i]? = some (.mu m) → σ[i]? = some (some (.ref p)) → H' p = H p ∧ G' p = none) : Sim K M G' H' σ ρ where
  len := S.len
  sub := s
  fr := fun h => by
    obtain ⟨v, e, d⟩ := S.fr h
    exact ⟨v, e, d.mono g⟩
  mu := fun {i m} h => by
    obtain ⟨p, o, e, mp, gp, hp, d⟩ := S.mu h
    obtain ⟨k1, k2⟩ := hk p m i h e
    exact ⟨p, o, e, mp, k2, k1.trans hp, d.mono g⟩
  apart := S.apart
/-- the set that may change, made smaller or greater -/
theorem Sim.chM (S : Sim K M G H σ ρ) (h : ∀ p, H p ≠ none → M p → M' p) : Sim K M' G H σ ρ where
  len := S.len
  sub := S.sub
  fr := S.fr
  mu := fun e => by
    obtain ⟨p, o, e, m, gp, hp, d⟩ := S.mu e
    exact ⟨p, o, e, h p (by rw [hp]; simp) m, gp, hp, d⟩
  apart := S.apart
theorem Sim.chMo (S : Sim K M G H σ ρ) (h : ∀ (p : Addr) (m : MO) (i : Nat), ρ[i]? = some (.mu m) → σ[i]? = some (some (.ref p)) → M' p) : Sim K M' G H σ ρ where
  len := S.len
  sub := S.sub
  fr := S.fr
  mu := fun q => by
    obtain ⟨p, o, e, m, gp, hp, d⟩ := S.mu q
    exact ⟨p, o, e, h p _ _ q e, gp, hp, d⟩
  apart := S.apart
theorem Sim.new {p : Addr} {o : HO} (S : Sim K M G H σ ρ) (hp : H p = none) : Sim K M (upd G p o) (upd H p o) σ ρ :=
  S.grow (fun a u e => by
    by_cases q : a = p
    · subst q; rw [upd_same] at e ⊢; exact e
    · rw [upd_ne q] at e ⊢; exact S.sub a u e) (Ex.new (fresh_back S.sub hp)) fun q m i h e => by
    obtain ⟨p', o', e', mp, gp, hp', d⟩ := S.mu h
    have z : q = p' := by rw [e] at e'; cases e'; rfl
    subst z
    have y := ne_of_none hp' hp
    exact ⟨upd_ne y, by rw [upd_ne y]; exact gp⟩
theorem Sim.newO {p : Addr} {o : HO} (S : Sim K M G H σ ρ) (hp : H p = none) : Sim K M G (upd H p o) σ ρ :=
  S.grow (S.sub.trans (Ex.new hp)) (Ex.refl _) fun q m i h e => by
    obtain ⟨p', o', e', mp, gp, hp', d⟩ := S.mu h
    have z : q = p' := by rw [e] at e'; cases e'; rfl
    subst z
    exact ⟨upd_ne (ne_of_none hp' hp), gp⟩
theorem get_set {α : Type} {l : List α} {i j : Nat} {x y : α} (h : (l.set i x)[j]? = some y) : (i = j ∧ y = x ∧ i < l.length) ∨ (i ≠ j ∧ l[j]? = some y) := by
  by_cases e : i = j
  · subst e
    by_cases hl : i < l.length
    · rw [List.getElem?_set_self hl] at h
      exact .inl ⟨rfl, (Option.some.inj h).symm, hl⟩
    · rw [List.getElem?_eq_none (by rw [List.length_set]; omega)] at h
      cases h
  · rw [List.getElem?_set_ne e] at h
    exact .inr ⟨e, h⟩
/-- a slot gets frozen data -/
theorem Sim.setF {i : Nat} {v : V} {d : D} (S : Sim K M G H σ ρ) (hd : Dz K G v d) : Sim K M G H (σ.set i (some v)) (ρ.set i (.fr d)) where
  len := by rw [List.length_set, List.length_set]; exact S.len
  sub := S.sub
  fr := fun {j e} h => by
    rcases get_set h with ⟨ej, ed, hl⟩ | ⟨ej, h⟩
    · subst ej
      cases ed
      exact ⟨v, by rw [List.getElem?_set_self (by rw [S.len]; exact hl)], hd⟩
    · obtain ⟨u, e1, e2⟩ := S.fr h
      exact ⟨u, by rw [List.getElem?_set_ne ej]; exact e1, e2⟩
  mu := fun {j e} h => by
    rcases get_set h with ⟨ej, ed, hl⟩ | ⟨ej, h⟩
    · cases ed
    · obtain ⟨p, o, e1, e2⟩ := S.mu h
      exact ⟨p, o, by rw [List.getElem?_set_ne ej]; exact e1, e2⟩
  apart := fun {j k m n p} hjk h1 h2 h3 h4 => by
    rcases get_set h1 with ⟨ej, ed, hl⟩ | ⟨ej, h1⟩
    · cases ed
    rcases get_set h2 with ⟨ek, ed, hl⟩ | ⟨ek, h2⟩
    · cases ed
    rw [List.getElem?_set_ne ej] at h3
    rw [List.getElem?_set_ne ek] at h4
    exact S.apart hjk h1 h2 h3 h4
/-- a slot gets a new own object -/
theorem Sim.setO {i : Nat} {p : Addr} {o : HO} {m : MO} (S : Sim K M G H σ ρ) (hm : M p) (hg : G p = none) (hp : H p = some o) (hd : MOk K G o m)
    (hn : ∀ (j : Nat) (n : MO), j ≠ i → ρ[j]? = some (.mu n) → σ[j]? ≠ some (some (.ref p))) : Sim K M G H (σ.set i (some (.ref p))) (ρ.set i (.mu m)) where
  len := by rw [List.length_set, List.length_set]; exact S.len
  sub := S.sub
  fr := fun {j e} h => by
    rcases get_set h with ⟨ej, ed, hl⟩ | ⟨ej, h⟩
    · cases ed
    · obtain ⟨u, e1, e2⟩ := S.fr h
      exact ⟨u, by rw [List.getElem?_set_ne ej]; exact e1, e2⟩
  mu := fun {j e} h => by
    rcases get_set h with ⟨ej, ed, hl⟩ | ⟨ej, h⟩
    · subst ej
      cases ed
      exact ⟨p, o, by rw [List.getElem?_set_self (by rw [S.len]; exact hl)], hm, hg, hp, hd⟩
    · obtain ⟨p, vs, e1, e2⟩ := S.mu h
      exact ⟨p, vs, by rw [List.getElem?_set_ne ej]; exact e1, e2⟩
  apart := fun {j k m' n q} hjk h1 h2 h3 h4 => by
    rcases get_set h1 with ⟨ej, ed, hl⟩ | ⟨ej, h1⟩
    · subst ej
      rw [List.getElem?_set_self (by rw [S.len]; exact hl)] at h3
      have ep : p = q := by cases h3; rfl
      subst ep
      rcases get_set h2 with ⟨ek, _, _⟩ | ⟨ek, h2⟩
      · exact hjk ek
      · rw [List.getElem?_set_ne ek] at h4
        exact hn k n (fun z => ek z.symm) h2 h4
    · rw [List.getElem?_set_ne ej] at h3
      rcases get_set h2 with ⟨ek, ed, hl⟩ | ⟨ek, h2⟩
      · subst ek
        rw [List.getElem?_set_self (by rw [S.len]; exact hl)] at h4
        have ep : p = q := by cases h4; rfl
        subst ep
        exact hn j m' (fun z => hjk z) h1 h3
      · rw [List.getElem?_set_ne ek] at h4
        exact S.apart hjk h1 h2 h3 h4
/-- the own object at a slot changes -/
theorem Sim.chU {i : Nat} {p : Addr} {o : HO} {m n : MO} (S : Sim K M G H σ ρ) (h0 : ρ[i]? = some (.mu m)) (hi : σ[i]? = some (some (.ref p))) (hd : MOk K G o n) :
    Sim K M G (upd H p o) σ (ρ.set i (.mu n)) where
  len := by rw [List.length_set]; exact S.len
  sub := fun a u e => by
    obtain ⟨p', o', e', mp, gp, hp', d⟩ := S.mu h0
    have z : p = p' := by rw [hi] at e'; cases e'; rfl
    subst z
    rw [upd_ne (ne_of_none e gp)]
    exact S.sub a u e
  fr := fun {j e} h => by
    rcases get_set h with ⟨ej, ed, hl⟩ | ⟨ej, h⟩
    · cases ed
    · exact S.fr h
  mu := fun {j e} h => by
    obtain ⟨p', o', e', mp, gp, hp', d⟩ := S.mu h0
    have z : p = p' := by rw [hi] at e'; cases e'; rfl
    subst z
    rcases get_set h with ⟨ej, ed, hl⟩ | ⟨ej, h⟩
    · subst ej
      cases ed
      exact ⟨p, o, hi, mp, gp, upd_same, hd⟩
    · obtain ⟨q, vs, e1, m1, g1, h1, d1⟩ := S.mu h
      have ne : q ≠ p := fun z => by
        subst z
        exact S.apart ej h0 h hi e1
      exact ⟨q, vs, e1, m1, g1, by rw [upd_ne ne]; exact h1, d1⟩
  apart := fun {j k m' n' q} hjk h1 h2 h3 h4 => by
    have a1 : ∃ x, ρ[j]? = some (.mu x) := by
      rcases get_set h1 with ⟨ej, _, _⟩ | ⟨_, h1⟩
      · subst ej; exact ⟨_, h0⟩
      · exact ⟨_, h1⟩
    have a2 : ∃ x, ρ[k]? = some (.mu x) := by
      rcases get_set h2 with ⟨ej, _, _⟩ | ⟨_, h2⟩
      · subst ej; exact ⟨_, h0⟩
      · exact ⟨_, h2⟩
    obtain ⟨x, a1⟩ := a1
    obtain ⟨y, a2⟩ := a2
    exact S.apart hjk a1 a2 h3 h4
theorem Sim.chO {i : Nat} {p : Addr} {us : List V} {ds es : List D} (S : Sim K M G H σ ρ) (h0 : ρ[i]? = some (.own ds)) (hi : σ[i]? = some (some (.ref p))) (hd : Dzs K G us es) :
    Sim K M G (upd H p (.lst us)) σ (ρ.set i (.own es)) := S.chU (n := .lst es) h0 hi hd
/-- an own object is frozen -/
theorem Sim.freezeM {i : Nat} {m : MO} (S : Sim K M G H σ ρ) (h0 : ρ[i]? = some (.mu m)) :
    ∃ G', Grow M G H G' H ∧ Sim K M G' H σ (ρ.set i (.fr m.d)) := by
  obtain ⟨p, o, e', mp, gp, hp', d⟩ := S.mu h0
  have eg : Ex G (upd G p o) := Ex.new gp
  refine ⟨upd G p o, ⟨eg, fun _ _ _ h => h, fun a n _ g => ?_, fun _ h => h⟩, ?_⟩
  · have q : a ≠ p := fun z => by subst z; exact n mp
    rw [upd_ne q]; exact g
  · have s : Ex (upd G p o) H := fun a u e => by
      by_cases q : a = p
      · subst q; rw [upd_same] at e; cases e; exact hp'
      · rw [upd_ne q] at e; exact S.sub a u e
    refine ⟨by rw [List.length_set]; exact S.len, s, fun {j e} h => ?_, fun {j e} h => ?_, fun {j k m' n' q} hjk h1 h2 h3 h4 => ?_⟩
    · rcases get_set h with ⟨ej, ed, hl⟩ | ⟨ej, h⟩
      · subst ej
        cases ed
        exact ⟨_, e', (d.mono eg).dz upd_same⟩
      · obtain ⟨u, e1, e2⟩ := S.fr h
        exact ⟨u, e1, e2.mono eg⟩
    · rcases get_set h with ⟨ej, ed, hl⟩ | ⟨ej, h⟩
      · cases ed
      · obtain ⟨q, us, e1, m1, g1, h1, d1⟩ := S.mu h
        have ne : q ≠ p := fun z => by
          subst z
          exact S.apart ej h0 h e' e1
        exact ⟨q, us, e1, m1, by rw [upd_ne ne]; exact g1, h1, d1.mono eg⟩
    · rcases get_set h1 with ⟨_, ed, _⟩ | ⟨_, h1⟩
      · cases ed
      rcases get_set h2 with ⟨_, ed, _⟩ | ⟨_, h2⟩
      · cases ed
      exact S.apart hjk h1 h2 h3 h4
end

/-! ### what things come to -/
section
variable (K : PySem.W.Frag)
/-- an expression gives frozen data -/
def EvZ (te : TE) (ρ ρ' : Rho) (d : D) : Prop := ∀ M G H σ, Sim K M G H σ ρ → ∀ Q : VK, (∀ v G' H', Grow M G H G' H' → Sim K M G' H' σ ρ' → Dz K G' v d → Q v H') → te σ H Q
/-- an expression gives what is read at once (an own list, too) -/
def RdZ (te : TE) (ρ ρ' : Rho) (d : D) : Prop := ∀ M G H σ, Sim K M G H σ ρ → ∀ Q : VK, (∀ v G' H', Grow M G H G' H' → Sim K M G' H' σ ρ' → DzR K H' v d → Q v H') → te σ H Q
def TsZ (tt : TT) (ρ ρ' : Rho) (b : Bool) : Prop := ∀ M G H σ, Sim K M G H σ ρ → ∀ Q : Bool → Hp → Prop, (∀ G' H', Grow M G H G' H' → Sim K M G' H' σ ρ' → Q b H') → tt σ H Q
def AgZ (ta : TA) (ρ ρ' : Rho) (ds : List D) : Prop := ∀ M G H σ, Sim K M G H σ ρ → ∀ Q : List V → Hp → Prop, (∀ vs G' H', Grow M G H G' H' → Sim K M G' H' σ ρ' → Dzs K G' vs ds → Q vs H') → ta σ H Q
def PoZ (to : TO) (ρ ρ' : Rho) (o : Option Int) : Prop := ∀ M G H σ, Sim K M G H σ ρ → ∀ Q : Option Int → Hp → Prop, (∀ G' H', Grow M G H G' H' → Sim K M G' H' σ ρ' → Q o H') → to σ H Q
end

inductive Out where
  | nx (ρ : Rho)
  | bk (ρ : Rho)
  | ct (ρ : Rho)
  | rt (ρ : Rho) (c : Cell)

def ResOk (K : PySem.W.Frag) (S : List Nat) (M : MS) (G H : Hp) (σ : L2.St) (ρ : Rho) (v : V) : Cell → Prop
  | .no => True
  | .fr d => Dz K G v d
  | .mu m => (∃ p o, v = .ref p ∧ M p ∧ G p = none ∧ H p = some o ∧ MOk K G o m) ∧ ∀ i ∈ S, ∀ n, ρ[i]? = some (.mu n) → σ[i]? ≠ some (some v)
theorem ResOk.sub {K : PySem.W.Frag} {S S' : List Nat} {M : MS} {G H : Hp} {σ : L2.St} {ρ : Rho} {v : V} (h : ∀ i ∈ S, i ∈ S') : ∀ {c : Cell}, ResOk K S' M G H σ ρ v c → ResOk K S M G H σ ρ v c
  | .no, _ => trivial
  | .fr _, r => r
  | .mu _, r => ⟨r.1, fun i hi => r.2 i (h i hi)⟩

/-- slots of S stand as they were -/
def Keep (S : List Nat) (σ σ' : L2.St) : Prop := ∀ i ∈ S, σ'[i]? = σ[i]?
theorem Keep.refl {S : List Nat} {σ : L2.St} : Keep S σ σ := fun _ _ => rfl
theorem Keep.trans {S : List Nat} {σ σ1 σ2 : L2.St} (a : Keep S σ σ1) (b : Keep S σ1 σ2) : Keep S σ σ2 := fun i h => (b i h).trans (a i h)
theorem Keep.set {S : List Nat} {σ : L2.St} {i : Nat} {v : Option V} (h : i ∉ S) : Keep S σ (σ.set i v) := fun j hj => by
  have e : i ≠ j := fun z => by subst z; exact h hj
  rw [List.getElem?_set_ne e]

def PostZ (K : PySem.W.Frag) (S : List Nat) (M : MS) (G H : Hp) (σ : L2.St) (E : Ends) : Out → Prop
  | .nx ρ' => ∀ G' H' σ', Grow M G H G' H' → Keep S σ σ' → Sim K M G' H' σ' ρ' → E.nx σ' H'
  | .bk ρ' => ∀ G' H' σ', Grow M G H G' H' → Keep S σ σ' → Sim K M G' H' σ' ρ' → E.bk σ' H'
  | .ct ρ' => ∀ G' H' σ', Grow M G H G' H' → Keep S σ σ' → Sim K M G' H' σ' ρ' → E.ct σ' H'
  | .rt ρ' c => ∀ v G' H' σ', Grow M G H G' H' → Keep S σ σ' → Sim K M G' H' σ' ρ' → ResOk K S M G' H' σ' ρ' v c → E.rt v H'
def Fresh (M : MS) (H : Hp) : Prop := ∀ a, H a = none → M a
theorem Fresh.grow {M : MS} {G H G' H' : Hp} (f : Fresh M H) (g : Grow M G H G' H') : Fresh M H' := fun a h => Classical.byContradiction fun n => by
  cases e : H a with
  | none => exact n (f a e)
  | some o => rw [g.k a o n e] at h; cases h
def ExZ (K : PySem.W.Frag) (S : List Nat) (ts : TS) (ρ : Rho) (o : Out) : Prop := ∀ M G H σ (E : Ends), Fresh M H → Sim K M G H σ ρ → PostZ K S M G H σ E o → ts E σ H
theorem PostZ.go {K : PySem.W.Frag} {S : List Nat} {M : MS} {G H G1 H1 : Hp} {σ σ1 : L2.St} {E : Ends} : ∀ {o : Out}, PostZ K S M G H σ E o → Grow M G H G1 H1 → Keep S σ σ1 → PostZ K S M G1 H1 σ1 E o
  | .nx _, h, g, k => fun G' H' σ' g' k' s => h G' H' σ' (g.trans g') (k.trans k') s
  | .bk _, h, g, k => fun G' H' σ' g' k' s => h G' H' σ' (g.trans g') (k.trans k') s
  | .ct _, h, g, k => fun G' H' σ' g' k' s => h G' H' σ' (g.trans g') (k.trans k') s
  | .rt _ _, h, g, k => fun v G' H' σ' g' k' s r => h v G' H' σ' (g.trans g') (k.trans k') s r
end Z

set_option Elab.async false
set_option linter.all false
set_option maxRecDepth 100000
set_option maxHeartbeats 2000000
/-! ZRules: the rules of expressions, tests, arguments, targets, walks, statements, calls over cells. -/
namespace Z
open PySem L2
open Evl (Ex Ex.refl Ex.trans Ex.new ex_rd ex_l ex_t sq_of st_of fresh_back sz_of sz_lt)
variable {K : PySem.W.Frag} {ρ ρ' ρ1 ρ2 ρ3 : Rho} {ta tb tc te tl : TE} {tt tu : TT} {d e x y : D} {ds es xs ys : List D}

/-! ### expressions -/
theorem EvZ.rd (h : EvZ K te ρ ρ' d) : RdZ K te ρ ρ' d := fun M G H σ S Q q => h M G H σ S Q fun v G' H' g s dz => q v G' H' g s (.dz (dz.mono s.sub))
theorem ev_var {i : Nat} (h : ρ[i]? = some (.fr d)) : EvZ K (tVar i) ρ ρ d := fun M G H σ S Q q => by
  obtain ⟨v, e, dz⟩ := S.fr h
  exact ⟨v, e, q v G H .refl S dz⟩
theorem rd_own {i : Nat} (h : ρ[i]? = some (.own ds)) : RdZ K (tVar i) ρ ρ (.lst ds) := fun M G H σ S Q q => by
  obtain ⟨p, vs, e, m, gp, hp, dz⟩ := S.own h
  exact ⟨.ref p, e, q _ G H .refl S (.dz (.lst (sq_of hp) (dz.mono S.sub)))⟩
theorem ev_c {v : V} (h : ∀ H, Dz K H v d) : EvZ K (tC v) ρ ρ d := fun M G H σ S Q q => q v G H .refl S (h G)
theorem ev_int {i : Int} : EvZ K (tC (.int i)) ρ ρ (.int i) := ev_c fun _ => .int i
theorem ev_str {i : Str} : EvZ K (tC (.str i)) ρ ρ (.str i) := ev_c fun _ => .str i
theorem ev_bl {i : Bool} : EvZ K (tC (.bl i)) ρ ρ (.bl i) := ev_c fun _ => .bl i
theorem ev_non : EvZ K (tC .non) ρ ρ .non := ev_c fun _ => .non
/-- a tuple of the module's own -/
theorem rd_c {v : V} (h : ∀ H, DzR K H v d) : RdZ K (tC v) ρ ρ d := fun M G H σ S Q q => q v G H .refl S (h H)
theorem ev_is (h : EvZ K te ρ ρ' d) (q : d = e) : EvZ K te ρ ρ' e := by subst q; exact h
/-- an operation upon two frozen things that touches nothing -/
theorem ev_op {r : R2} {d1 d2 : D} (ha : EvZ K ta ρ ρ1 d1) (hb : RdZ K tb ρ1 ρ2 d2) (hr : ∀ (u v : V) G H (Q : VK), Ex G H → Dz K G u d1 → DzR K H v d2 → (∀ z, Dz K G z d → Q z H) → r u v H Q) : EvZ K (tOp r ta tb) ρ ρ2 d := fun M G H σ S Q q =>
  ha M G H σ S _ fun u G1 H1 g1 s1 du => hb M G1 H1 σ s1 _ fun v G2 H2 g2 s2 dv => hr u v G2 H2 Q s2.sub (du.mono g2.g) dv fun z dz => q z G2 H2 (g1.trans g2) s2 dz
theorem ev_i0 {g : Int → Int → V} {i j : Int} (ha : EvZ K ta ρ ρ1 (.int i)) (hb : EvZ K tb ρ1 ρ2 (.int j)) (h : ∀ H, Dz K H (g i j) d) : EvZ K (tOp (rI0 g) ta tb) ρ ρ2 d :=
  ev_op ha hb.rd fun u v G H Q _ du dv q => ⟨i, j, du.int_inv, dv.int_inv, q _ (h G)⟩
theorem ev_i {C : Int → Int → Prop} {g : Int → Int → V} {i j : Int} (ha : EvZ K ta ρ ρ1 (.int i)) (hb : EvZ K tb ρ1 ρ2 (.int j)) (hc : C i j) (h : ∀ H, Dz K H (g i j) d) : EvZ K (tOp (rI C g) ta tb) ρ ρ2 d :=
  ev_op ha hb.rd fun u v G H Q _ du dv q => ⟨i, j, du.int_inv, dv.int_inv, hc, q _ (h G)⟩
theorem ev_add {i j : Int} (ha : EvZ K ta ρ ρ1 (.int i)) (hb : EvZ K tb ρ1 ρ2 (.int j)) : EvZ K (tOp (rI0 fun i j => .int (i + j)) ta tb) ρ ρ2 (.int (i + j)) := ev_i0 ha hb fun _ => .int _
theorem ev_sub {i j : Int} (ha : EvZ K ta ρ ρ1 (.int i)) (hb : EvZ K tb ρ1 ρ2 (.int j)) : EvZ K (tOp (rI0 fun i j => .int (i - j)) ta tb) ρ ρ2 (.int (i - j)) := ev_i0 ha hb fun _ => .int _
theorem ev_mul {i j : Int} (ha : EvZ K ta ρ ρ1 (.int i)) (hb : EvZ K tb ρ1 ρ2 (.int j)) (hc : CMul i j) : EvZ K (tOp (rI CMul fun i j => .int (i * j)) ta tb) ρ ρ2 (.int (i * j)) := ev_i ha hb hc fun _ => .int _
theorem ev_mod {i j : Int} (ha : EvZ K ta ρ ρ1 (.int i)) (hb : EvZ K tb ρ1 ρ2 (.int j)) (hc : 0 < j) : EvZ K (tOp (rI (fun _ j => 0 < j) fun i j => .int (i % j)) ta tb) ρ ρ2 (.int (i % j)) := ev_i ha hb hc fun _ => .int _
theorem ev_fdiv {i j : Int} (ha : EvZ K ta ρ ρ1 (.int i)) (hb : EvZ K tb ρ1 ρ2 (.int j)) (hc : CDiv i j) : EvZ K (tOp (rI CDiv fun i j => .int (i / j)) ta tb) ρ ρ2 (.int (i / j)) := ev_i ha hb hc fun _ => .int _
theorem ev_pow {i j : Int} (ha : EvZ K ta ρ ρ1 (.int i)) (hb : EvZ K tb ρ1 ρ2 (.int j)) (hc : CPow i j) : EvZ K (tOp (rI CPow fun i j => .int (i ^ j.toNat)) ta tb) ρ ρ2 (.int (i ^ j.toNat)) := ev_i ha hb hc fun _ => .int _
theorem ev_lt {i j : Int} (ha : EvZ K ta ρ ρ1 (.int i)) (hb : EvZ K tb ρ1 ρ2 (.int j)) : EvZ K (tOp (rI0 fun i j => .bl (decide (i < j))) ta tb) ρ ρ2 (.bl (decide (i < j))) := ev_i0 ha hb fun _ => .bl _
theorem ev_le {i j : Int} (ha : EvZ K ta ρ ρ1 (.int i)) (hb : EvZ K tb ρ1 ρ2 (.int j)) : EvZ K (tOp (rI0 fun i j => .bl (decide (i ≤ j))) ta tb) ρ ρ2 (.bl (decide (i ≤ j))) := ev_i0 ha hb fun _ => .bl _
theorem ev_gt {i j : Int} (ha : EvZ K ta ρ ρ1 (.int i)) (hb : EvZ K tb ρ1 ρ2 (.int j)) : EvZ K (tOp (rI0 fun i j => .bl (decide (j < i))) ta tb) ρ ρ2 (.bl (decide (j < i))) := ev_i0 ha hb fun _ => .bl _
theorem ev_ge {i j : Int} (ha : EvZ K ta ρ ρ1 (.int i)) (hb : EvZ K tb ρ1 ρ2 (.int j)) : EvZ K (tOp (rI0 fun i j => .bl (decide (j ≤ i))) ta tb) ρ ρ2 (.bl (decide (j ≤ i))) := ev_i0 ha hb fun _ => .bl _
/-- == of scalars -/
theorem ev_eqI {i j : Int} (ha : EvZ K ta ρ ρ1 (.int i)) (hb : EvZ K tb ρ1 ρ2 (.int j)) : EvZ K (tOp rEq ta tb) ρ ρ2 (.bl (decide (i = j))) :=
  ev_op ha hb.rd fun u v G H Q _ du dv q => by
    rw [du.int_inv, dv.int_inv]
    exact ⟨rfl, q _ (by rw [show decide (V.int i = V.int j) = decide (i = j) by simp]; exact .bl _)⟩
theorem ev_neI {i j : Int} (ha : EvZ K ta ρ ρ1 (.int i)) (hb : EvZ K tb ρ1 ρ2 (.int j)) : EvZ K (tOp rNe ta tb) ρ ρ2 (.bl (!decide (i = j))) :=
  ev_op ha hb.rd fun u v G H Q _ du dv q => by
    rw [du.int_inv, dv.int_inv]
    exact ⟨rfl, q _ (by rw [show decide (V.int i = V.int j) = decide (i = j) by simp]; exact .bl _)⟩
theorem ev_eqS {i j : Str} (ha : EvZ K ta ρ ρ1 (.str i)) (hb : EvZ K tb ρ1 ρ2 (.str j)) : EvZ K (tOp rEq ta tb) ρ ρ2 (.bl (decide (i = j))) :=
  ev_op ha hb.rd fun u v G H Q _ du dv q => by
    rw [du.str_inv, dv.str_inv]
    exact ⟨rfl, q _ (by rw [show decide (V.str i = V.str j) = decide (i = j) by simp]; exact .bl _)⟩
theorem ev_eqB {i j : Bool} (ha : EvZ K ta ρ ρ1 (.bl i)) (hb : EvZ K tb ρ1 ρ2 (.bl j)) : EvZ K (tOp rEq ta tb) ρ ρ2 (.bl (decide (i = j))) :=
  ev_op ha hb.rd fun u v G H Q _ du dv q => by
    rw [du.bl_inv, dv.bl_inv]
    exact ⟨rfl, q _ (by rw [show decide (V.bl i = V.bl j) = decide (i = j) by simp]; exact .bl _)⟩
/-- texts -/
theorem ev_catS {i j : Str} (ha : EvZ K ta ρ ρ1 (.str i)) (hb : EvZ K tb ρ1 ρ2 (.str j)) (hl : i.length + j.length ≤ 100000) :
    EvZ K (tOp (fun x y H Q => ∃ i j, x = .str i ∧ y = .str j ∧ i.length + j.length ≤ sizeLine ∧ Q (.str (i ++ j)) H) ta tb) ρ ρ2 (.str (i ++ j)) :=
  ev_op ha hb.rd fun u v G H Q _ du dv q => ⟨i, j, du.str_inv, dv.str_inv, sz_of hl, q _ (.str _)⟩
theorem ev_inSg {c : Nat} {z : Str} (ha : EvZ K ta ρ ρ1 (.str ⟨#[c]⟩)) (hb : EvZ K tb ρ1 ρ2 (.str z)) :
    EvZ K (tOp (fun x y H Q => ∃ (c : Nat) (z : Str), x = .str ⟨#[c]⟩ ∧ y = .str z ∧ Q (.bl (decide (c ∈ z.cps.toList))) H) ta tb) ρ ρ2 (.bl (decide (c ∈ z.cps.toList))) :=
  ev_op ha hb.rd fun u v G H Q _ du dv q => ⟨c, z, du.str_inv, dv.str_inv, q _ (.bl _)⟩
/-- x in a list or tuple of texts -/
theorem inV_str (x : Str) (zs : List Str) : inV (.str x) (zs.map V.str) = decide (x ∈ zs) := by
  unfold inV
  induction zs with
  | nil => rfl
  | cons z zs ih =>
    rw [List.map_cons, List.any_cons, ih]
    show (z == x || decide (x ∈ zs)) = decide (x ∈ z :: zs)
    by_cases q : z = x
    · subst q
      rw [show (z == z) = true from beq_self_eq_true z, Bool.true_or, decide_eq_true List.mem_cons_self]
    · rw [show (z == x) = false from beq_eq_false_iff_ne.mpr q, Bool.false_or]
      by_cases w : x ∈ zs
      · rw [decide_eq_true w, decide_eq_true (List.mem_cons_of_mem _ w)]
      · rw [decide_eq_false w, decide_eq_false (fun m => by
          rcases List.mem_cons.mp m with m | m
          · exact q m.symm
          · exact w m)]
theorem flat_strs (zs : List Str) : (zs.map V.str).all flatV = true := by
  induction zs with
  | nil => rfl
  | cons z zs ih => rw [List.map_cons, List.all_cons, ih]; rfl
theorem rd_seq {v : V} {H : Hp} (h : DzR K H v (.lst ds) ∨ DzR K H v (.tup ds)) : ∃ p xs, v = .ref p ∧ (SqL K H p xs ∨ SqT K H p xs) ∧ Dzs K H xs ds := by
  rcases h with h | h
  · obtain ⟨a, xs, e, h1, h2⟩ := h.lst_inv
    exact ⟨a, xs, e, .inl h1, h2⟩
  · obtain ⟨a, xs, e, h1, h2⟩ := h.tup_inv
    exact ⟨a, xs, e, .inr h1, h2⟩
theorem ev_inL {neg : Bool} {x : Str} {zs : List Str} (ha : EvZ K ta ρ ρ1 (.str x)) (hb : RdZ K tb ρ1 ρ2 (.lst (zs.map D.str))) : EvZ K (tOp (rIn K neg) ta tb) ρ ρ2 (.bl (if neg then !decide (x ∈ zs) else decide (x ∈ zs))) :=
  ev_op ha hb fun u v G H Q _ du dv q => by
    obtain ⟨p, xs, e, hs, hz⟩ := rd_seq (.inl dv)
    have ex := hz.strs
    subst ex
    rw [du.str_inv]
    exact ⟨p, _, e, hs, rfl, flat_strs zs, by rw [inV_str]; exact q _ (.bl _)⟩
theorem ev_inT {neg : Bool} {x : Str} {zs : List Str} (ha : EvZ K ta ρ ρ1 (.str x)) (hb : RdZ K tb ρ1 ρ2 (.tup (zs.map D.str))) : EvZ K (tOp (rIn K neg) ta tb) ρ ρ2 (.bl (if neg then !decide (x ∈ zs) else decide (x ∈ zs))) :=
  ev_op ha hb fun u v G H Q _ du dv q => by
    obtain ⟨p, xs, e, hs, hz⟩ := rd_seq (.inr dv)
    have ex := hz.strs
    subst ex
    rw [du.str_inv]
    exact ⟨p, _, e, hs, rfl, flat_strs zs, by rw [inV_str]; exact q _ (.bl _)⟩
/-- items -/
theorem atD {xs : List V} {H : Hp} {i : Int} (h : Dzs K H xs ds) (e : atI ds i = some d) : ∃ v, atI xs i = some v ∧ Dz K H v d := by
  unfold atI at e ⊢
  rw [h.len]
  cases q : ixN ds.length i with
  | none => rw [q] at e; cases e
  | some j =>
    rw [q] at e
    exact h.get e
theorem at_nat {j : Nat} (h : ds[j]? = some d) : atI ds (j : Int) = some d := atI_nat h
theorem at_of {i : Int} {j : Nat} (e : i = (j : Int)) (h : ds[j]? = some d) : atI ds i = some d := by rw [e]; exact atI_nat h
theorem ev_ixL {i : Int} (ha : EvZ K ta ρ ρ1 (.lst ds)) (hb : EvZ K tb ρ1 ρ2 (.int i)) (h : atI ds i = some d) : EvZ K (tOp (rIx K) ta tb) ρ ρ2 d := fun M G H σ S Q q =>
  ha M G H σ S _ fun u G1 H1 g1 s1 du => hb M G1 H1 σ s1 _ fun v G2 H2 g2 s2 dv => by
    obtain ⟨a, xs, e, hs, hz⟩ := (du.mono g2.g).lst_inv
    obtain ⟨w, e1, dw⟩ := atD hz h
    exact .inl ⟨a, xs, i, w, e, dv.int_inv, ex_l s2.sub hs, e1, q w G2 H2 (g1.trans g2) s2 dw⟩
theorem ev_ixT {i : Int} (ha : EvZ K ta ρ ρ1 (.tup ds)) (hb : EvZ K tb ρ1 ρ2 (.int i)) (h : atI ds i = some d) : EvZ K (tOp (rIx K) ta tb) ρ ρ2 d := fun M G H σ S Q q =>
  ha M G H σ S _ fun u G1 H1 g1 s1 du => hb M G1 H1 σ s1 _ fun v G2 H2 g2 s2 dv => by
    obtain ⟨a, xs, e, hs, hz⟩ := (du.mono g2.g).tup_inv
    obtain ⟨w, e1, dw⟩ := atD hz h
    exact .inr (.inl ⟨a, xs, i, w, e, dv.int_inv, ex_t s2.sub hs, e1, q w G2 H2 (g1.trans g2) s2 dw⟩)
theorem ev_ixS {i : Int} {z : Str} {c : Nat} (ha : EvZ K ta ρ ρ1 (.str z)) (hb : EvZ K tb ρ1 ρ2 (.int i)) (hl : z.length ≤ 100000) (h : atI z.cps.toList i = some c) : EvZ K (tOp (rIx K) ta tb) ρ ρ2 (.str ⟨#[c]⟩) := fun M G H σ S Q q =>
  ha M G H σ S _ fun u G1 H1 g1 s1 du => hb M G1 H1 σ s1 _ fun v G2 H2 g2 s2 dv =>
    .inr (.inr ⟨z, i, c, du.str_inv, dv.int_inv, sz_of hl, h, q _ G2 H2 (g1.trans g2) s2 (.str _)⟩)
/-- an item of an own list -/
theorem ev_ixO {i : Nat} {k : Int} (h : ρ[i]? = some (.own es)) (hb : EvZ K tb ρ ρ' (.int k)) (h' : ρ'[i]? = some (.own ds)) (hk : atI ds k = some d) : EvZ K (tOp (rIx K) (tVar i) tb) ρ ρ' d := fun M G H σ S Q q => by
  obtain ⟨p, vs, e, m, gp, hp, dz⟩ := S.own h
  refine ⟨.ref p, e, hb M G H σ S _ fun v G2 H2 g2 s2 dv => ?_⟩
  obtain ⟨p', us, e', m', gp', hp', dz'⟩ := s2.own h'
  have z : p = p' := by rw [e] at e'; cases e'; rfl
  subst z
  obtain ⟨w, e1, dw⟩ := atD dz' hk
  exact .inl ⟨p, us, k, w, rfl, dv.int_inv, sq_of hp', e1, q w G2 H2 g2 s2 dw⟩
/-- len -/
theorem len_lst {v : V} {H : Hp} (h : DzR K H v (.lst ds)) : LenV K v H ds.length := by
  obtain ⟨a, xs, e, hs, hz⟩ := h.lst_inv
  subst e
  exact .inl ⟨xs, hs, hz.len.symm⟩
theorem len_tup {v : V} {H : Hp} (h : DzR K H v (.tup ds)) : LenV K v H ds.length := by
  obtain ⟨a, xs, e, hs, hz⟩ := h.tup_inv
  subst e
  exact .inr ⟨xs, hs, hz.len.symm⟩
theorem ev_lenL (ha : RdZ K ta ρ ρ' (.lst ds)) : EvZ K (tCB (fun xs H Q => ∃ x n, xs = [x] ∧ LenV K x H n ∧ Q (.int n) H) (tCons ta tNil)) ρ ρ' (.int (ds.length : Int)) := fun M G H σ S Q q =>
  ha M G H σ S _ fun u G1 H1 g1 s1 du => ⟨u, ds.length, rfl, len_lst du, q _ G1 H1 g1 s1 (.int _)⟩
theorem ev_lenT (ha : RdZ K ta ρ ρ' (.tup ds)) : EvZ K (tCB (fun xs H Q => ∃ x n, xs = [x] ∧ LenV K x H n ∧ Q (.int n) H) (tCons ta tNil)) ρ ρ' (.int (ds.length : Int)) := fun M G H σ S Q q =>
  ha M G H σ S _ fun u G1 H1 g1 s1 du => ⟨u, ds.length, rfl, len_tup du, q _ G1 H1 g1 s1 (.int _)⟩
theorem ev_lenS {z : Str} (ha : EvZ K ta ρ ρ' (.str z)) (hl : z.length ≤ 100000) : EvZ K (tCB (fun xs H Q => ∃ x n, xs = [x] ∧ LenV K x H n ∧ Q (.int n) H) (tCons ta tNil)) ρ ρ' (.int (z.length : Int)) := fun M G H σ S Q q =>
  ha M G H σ S _ fun u G1 H1 g1 s1 du => ⟨u, z.length, rfl, by rw [du.str_inv]; exact ⟨sz_of hl, rfl⟩, q _ G1 H1 g1 s1 (.int _)⟩
/-- int(n) -/
theorem ev_toInt {i : Int} (ha : EvZ K ta ρ ρ' (.int i)) : EvZ K (tCB (fun xs H Q => (∃ i, xs = [.int i] ∧ Q (.int i) H) ∨ ∃ k, xs = [.bl k] ∧ Q (.int (if k then 1 else 0)) H) (tCons ta tNil)) ρ ρ' (.int i) := fun M G H σ S Q q =>
  ha M G H σ S _ fun u G1 H1 g1 s1 du => .inl ⟨i, by rw [du.int_inv], q _ G1 H1 g1 s1 (.int _)⟩
/-- all(list of truth values) -/
theorem ev_all {bs : List Bool} (ha : RdZ K ta ρ ρ' (.lst (bs.map D.bl))) : EvZ K (tCB (rAll K) (tCons ta tNil)) ρ ρ' (.bl (bs.all id)) := fun M G H σ S Q q =>
  ha M G H σ S _ fun u G1 H1 g1 s1 du => by
    obtain ⟨a, xs, e, hs, hz⟩ := du.lst_inv
    have ex := hz.bls
    subst ex
    exact ⟨a, bs, by rw [e], hs, q _ G1 H1 g1 s1 (.bl _)⟩
/-- slices of texts -/
theorem poz_none : PoZ K tNoPart ρ ρ none := fun M G H σ S Q q => q G H .refl S
theorem poz_some {i : Int} (h : EvZ K te ρ ρ' (.int i)) : PoZ K (tPart te) ρ ρ' (some i) := fun M G H σ S Q q =>
  h M G H σ S _ fun v G1 H1 g1 s1 dv => ⟨i, dv.int_inv, q G1 H1 g1 s1⟩
theorem ev_slS {tl th : TO} {z : Str} {lo hi : Option Int} (h : EvZ K te ρ ρ1 (.str z)) (h1 : PoZ K tl ρ1 ρ2 lo) (h2 : PoZ K th ρ2 ρ3 hi) (hl : z.length ≤ 100000) : EvZ K (tSl rSlS te tl th) ρ ρ3 (.str (cutS z lo hi)) := fun M G H σ S Q q =>
  h M G H σ S _ fun v G1 H1 g1 s1 dv => h1 M G1 H1 σ s1 _ fun G2 H2 g2 s2 => h2 M G2 H2 σ s2 _ fun G3 H3 g3 s3 =>
    ⟨z, dv.str_inv, sz_of hl, q _ G3 H3 ((g1.trans g2).trans g3) s3 (.str _)⟩

/-! ### arguments, displays -/
theorem ag_nil : AgZ K tNil ρ ρ [] := fun M G H σ S Q q => q [] G H .refl S .nil
theorem ag_cons {tr : TA} (h : EvZ K ta ρ ρ1 d) (hr : AgZ K tr ρ1 ρ2 ds) : AgZ K (tCons ta tr) ρ ρ2 (d :: ds) := fun M G H σ S Q q =>
  h M G H σ S _ fun v G1 H1 g1 s1 dv => hr M G1 H1 σ s1 _ fun vs G2 H2 g2 s2 dvs => q (v :: vs) G2 H2 (g1.trans g2) s2 (.cons (dv.mono g2.g) dvs)
/-- a new list: not frozen yet -/
def EvN (K : PySem.W.Frag) (te : TE) (ρ ρ' : Rho) (ds : List D) : Prop := ∀ M G H σ, Sim K M G H σ ρ → ∀ Q : VK, (∀ p vs G' H', Grow M G H G' H' → Sim K M G' H' σ ρ' → H p = none → G' p = none → H' p = some (.lst vs) → Dzs K G' vs ds → Q (.ref p) H') → te σ H Q
theorem Sim.noOwn {M : MS} {G H : Hp} {σ : L2.St} {p : Addr} (S : Sim K M G H σ ρ) (hp : H p = none) : ∀ (j : Nat) (es : MO), ρ[j]? = some (.mu es) → σ[j]? ≠ some (some (.ref p)) := fun j es h e => by
  obtain ⟨q, vs, e', m, gp, hq, dz⟩ := S.mu h
  rw [e] at e'
  cases e'
  rw [hp] at hq
  cases hq
/-- freezing a new list -/
theorem freezeN {M : MS} {G H G' H' : Hp} {σ : L2.St} {p : Addr} {vs : List V} (g : Grow M G H G' H') (s : Sim K M G' H' σ ρ') (hp : H p = none) (gp : G' p = none) (h' : H' p = some (.lst vs)) (hd : Dzs K G' vs ds)
    (hn : ∀ (j : Nat) (es : MO), ρ'[j]? = some (.mu es) → σ[j]? ≠ some (some (.ref p))) :
    Grow M G H (upd G' p (.lst vs)) H' ∧ Sim K M (upd G' p (.lst vs)) H' σ ρ' ∧ Dz K (upd G' p (.lst vs)) (.ref p) (.lst ds) := by
  have eg : Ex G' (upd G' p (.lst vs)) := Ex.new gp
  refine ⟨⟨g.g.trans eg, g.k, fun a m n z => ?_, g.d⟩, s.grow (fun a o e => ?_) eg fun q es i e1 e2 => ?_, .lst (sq_of upd_same) (hd.mono eg)⟩
  · have q : a ≠ p := fun z => by subst z; exact n hp
    rw [upd_ne q]; exact g.n a m n z
  · by_cases q : a = p
    · subst q; rw [upd_same] at e; cases e; exact h'
    · rw [upd_ne q] at e; exact s.sub a o e
  · obtain ⟨q', us, e', m, gq, hq, dz⟩ := s.mu e1
    rw [e2] at e'
    cases e'
    have ne : q ≠ p := fun z => by subst z; exact hn i es e1 e2
    exact ⟨rfl, by rw [upd_ne ne]; exact gq⟩
theorem EvN.noOwn {M : MS} {G H G' H' : Hp} {σ : L2.St} {p : Addr} {vs : List V} (S : Sim K M G H σ ρ) (s : Sim K M G' H' σ ρ') (hp : H p = none) (hρ : ∀ (j : Nat) (es : MO), ρ'[j]? = some (.mu es) → ∃ fs, ρ[j]? = some (.mu fs)) :
    ∀ (j : Nat) (es : MO), ρ'[j]? = some (.mu es) → σ[j]? ≠ some (some (.ref p)) := fun j es h => by
  obtain ⟨fs, e⟩ := hρ j es h
  exact S.noOwn hp j fs e
/-- the own slots of ρ' are own in ρ -/
def OwnIn (ρ' ρ : Rho) : Prop := ∀ (j : Nat) (es : MO), ρ'[j]? = some (.mu es) → ∃ fs, ρ[j]? = some (.mu fs)
theorem OwnIn.refl : OwnIn ρ ρ := fun _ es h => ⟨es, h⟩
theorem OwnIn.set {i : Nat} {fs gs : MO} (h : ρ[i]? = some (.mu fs)) : OwnIn (ρ.set i (.mu gs)) ρ := fun j es e => by
  rcases get_set e with ⟨ej, _, _⟩ | ⟨_, e⟩
  · subst ej; exact ⟨fs, h⟩
  · exact ⟨es, e⟩
theorem EvN.ev (h : EvN K te ρ ρ' ds) (ho : OwnIn ρ' ρ) : EvZ K te ρ ρ' (.lst ds) := fun M G H σ S Q q => h M G H σ S Q fun p vs G' H' g s hp gp h' hd => by
  obtain ⟨a, b, c⟩ := freezeN g s hp gp h' hd (EvN.noOwn (vs := vs) S s hp ho)
  exact q _ _ _ a b c
theorem EvN.rd (h : EvN K te ρ ρ' ds) : RdZ K te ρ ρ' (.lst ds) := fun M G H σ S Q q => h M G H σ S Q fun p vs G' H' g s hp gp h' hd => q _ _ _ g s (.dz (.lst (sq_of h') (hd.mono s.sub)))
theorem ev_tup {tx : TA} (h : AgZ K tx ρ ρ' ds) (hl : ds.length ≤ 100000) : EvZ K (tTup tx) ρ ρ' (.tup ds) := fun M G H σ S Q q =>
  h M G H σ S _ fun vs G1 H1 g1 s1 dv => ⟨by rw [dv.len]; exact sz_of hl, fun p hp => q _ _ _ (g1.trans (.new hp s1.sub)) (s1.new hp) (.tup upd_same (dv.mono (Ex.new (fresh_back s1.sub hp))))⟩
theorem en_lst {tx : TA} (h : AgZ K tx ρ ρ' ds) (hl : ds.length ≤ 100000) : EvN K (tLst tx) ρ ρ' ds := fun M G H σ S Q q =>
  h M G H σ S _ fun vs G1 H1 g1 s1 dv => ⟨by rw [dv.len]; exact sz_of hl, fun p hp => q p vs G1 _ (g1.trans (.newO hp)) (s1.newO hp) (g1.d p hp) (fresh_back s1.sub hp) upd_same dv⟩
end Z

set_option Elab.async false
set_option linter.all false
set_option maxRecDepth 100000
set_option maxHeartbeats 2000000
/-! ZStm: tests, targets, walks, comprehensions, statements, calls. -/
namespace Z
open PySem L2
open Evl (Ex Ex.refl Ex.trans Ex.new ex_rd ex_l ex_t sq_of st_of fresh_back sz_of sz_lt)
variable {K : PySem.W.Frag} {ρ ρ' ρ1 ρ2 ρ3 : Rho} {ta tb tc te tl : TE} {tt tu : TT} {d e x y : D} {ds es xs ys rs : List D} {b c : Bool}

/-! ### tests -/
theorem ts_test (h : EvZ K te ρ ρ' (.bl b)) : TsZ K (tTest te) ρ ρ' b := fun M G H σ S Q q => h M G H σ S _ fun v G1 H1 g1 s1 dv => ⟨b, dv.bl_inv, q G1 H1 g1 s1⟩
theorem ts_B (h : EvZ K te ρ ρ' (.bl b)) : TsZ K (tB te) ρ ρ' b := fun M G H σ S Q q => h M G H σ S _ fun v G1 H1 g1 s1 dv => ⟨b, dv.bl_inv, q G1 H1 g1 s1⟩
theorem ts_not (h : TsZ K tt ρ ρ' b) : TsZ K (tNot tt) ρ ρ' (!b) := fun M G H σ S Q q => h M G H σ S _ fun G1 H1 g1 s1 => q G1 H1 g1 s1
theorem ts_is (h : TsZ K tt ρ ρ' b) (q : b = c) : TsZ K tt ρ ρ' c := by subst q; exact h
theorem ts_andT (h : TsZ K tt ρ ρ1 true) (k : TsZ K tu ρ1 ρ2 b) : TsZ K (tAnd tt tu) ρ ρ2 b := fun M G H σ S Q q => h M G H σ S _ fun G1 H1 g1 s1 => by
  show tu σ H1 Q
  exact k M G1 H1 σ s1 _ fun G2 H2 g2 s2 => q G2 H2 (g1.trans g2) s2
theorem ts_andF (h : TsZ K tt ρ ρ1 false) : TsZ K (tAnd tt tu) ρ ρ1 false := fun M G H σ S Q q => h M G H σ S _ fun G1 H1 g1 s1 => q G1 H1 g1 s1
theorem ts_and (h : TsZ K tt ρ ρ b) (k : b = true → TsZ K tu ρ ρ c) : TsZ K (tAnd tt tu) ρ ρ (b && c) := by
  cases b with
  | true => exact ts_andT h (k rfl)
  | false => exact ts_andF h
theorem ts_orT (h : TsZ K tt ρ ρ1 true) : TsZ K (tOr tt tu) ρ ρ1 true := fun M G H σ S Q q => h M G H σ S _ fun G1 H1 g1 s1 => q G1 H1 g1 s1
theorem ts_orF (h : TsZ K tt ρ ρ1 false) (k : TsZ K tu ρ1 ρ2 b) : TsZ K (tOr tt tu) ρ ρ2 b := fun M G H σ S Q q => h M G H σ S _ fun G1 H1 g1 s1 => by
  show tu σ H1 Q
  exact k M G1 H1 σ s1 _ fun G2 H2 g2 s2 => q G2 H2 (g1.trans g2) s2
theorem ts_or (h : TsZ K tt ρ ρ b) (k : b = false → TsZ K tu ρ ρ c) : TsZ K (tOr tt tu) ρ ρ (b || c) := by
  cases b with
  | true => exact ts_orT h
  | false => exact ts_orF h (k rfl)
theorem ts_yes : TsZ K tYes ρ ρ true := fun M G H σ S Q q => q G H .refl S
/-- a chain a op b op' c; the parts are frozen -/
theorem ts_chain {r r' : R2} {d1 d2 d3 : D} (ha : EvZ K ta ρ ρ1 d1) (hb : EvZ K tb ρ1 ρ2 d2) (hc : b = true → EvZ K tc ρ2 ρ2 d3)
    (hr : ∀ (u v : V) G H (Q : VK), Ex G H → Dz K G u d1 → Dz K G v d2 → Q (.bl b) H → r u v H Q) (hr' : b = true → ∀ (u v : V) G H (Q : VK), Ex G H → Dz K G u d2 → Dz K G v d3 → Q (.bl c) H → r' u v H Q) :
    EvZ K (tChain r r' ta tb tc) ρ ρ2 (.bl (b && c)) := fun M G H σ S Q q =>
  ha M G H σ S _ fun u G1 H1 g1 s1 du => hb M G1 H1 σ s1 _ fun v G2 H2 g2 s2 dv => hr u v G2 H2 _ s2.sub (du.mono g2.g) dv ⟨b, rfl, by
    cases b with
    | true =>
      rw [if_pos rfl]
      exact hc rfl M G2 H2 σ s2 _ fun w G3 H3 g3 s3 dw => hr' rfl v w G3 H3 _ s3.sub (dv.mono g3.g) dw (q _ G3 H3 ((g1.trans g2).trans g3) s3 (.bl c))
    | false =>
      rw [if_neg Bool.false_ne_true]
      exact q _ G2 H2 (g1.trans g2) s2 (.bl false)⟩
theorem ev_chainI {p p' : Int → Int → Bool} {i j k : Int} (ha : EvZ K ta ρ ρ1 (.int i)) (hb : EvZ K tb ρ1 ρ2 (.int j)) (hc : EvZ K tc ρ2 ρ2 (.int k)) :
    EvZ K (tChain (rI0 fun i j => .bl (p i j)) (rI0 fun i j => .bl (p' i j)) ta tb tc) ρ ρ2 (.bl (p i j && p' j k)) :=
  ts_chain ha hb (fun _ => hc) (fun u v G H Q _ du dv q => ⟨i, j, du.int_inv, dv.int_inv, q⟩) (fun _ u v G H Q _ du dv q => ⟨j, k, du.int_inv, dv.int_inv, q⟩)
theorem ev_ifT (h : TsZ K tt ρ ρ1 true) (ha : EvZ K ta ρ1 ρ2 d) : EvZ K (tIf tt ta tb) ρ ρ2 d := fun M G H σ S Q q => h M G H σ S _ fun G1 H1 g1 s1 => by
  rw [if_pos rfl]
  exact ha M G1 H1 σ s1 _ fun v G2 H2 g2 s2 dv => q v G2 H2 (g1.trans g2) s2 dv
theorem ev_ifF (h : TsZ K tt ρ ρ1 false) (ha : EvZ K tb ρ1 ρ2 d) : EvZ K (tIf tt ta tb) ρ ρ2 d := fun M G H σ S Q q => h M G H σ S _ fun G1 H1 g1 s1 => by
  rw [if_neg Bool.false_ne_true]
  exact ha M G1 H1 σ s1 _ fun v G2 H2 g2 s2 dv => q v G2 H2 (g1.trans g2) s2 dv
theorem ev_andV (h : EvZ K ta ρ ρ1 (.bl b)) (k : b = true → EvZ K tb ρ1 ρ1 (.bl c)) : EvZ K (tAndV ta tb) ρ ρ1 (.bl (b && c)) := fun M G H σ S Q q => h M G H σ S _ fun v G1 H1 g1 s1 dv => ⟨b, dv.bl_inv, by
  cases b with
  | true =>
    rw [if_pos rfl]
    exact k rfl M G1 H1 σ s1 _ fun v G2 H2 g2 s2 dv => q v G2 H2 (g1.trans g2) s2 dv
  | false =>
    rw [if_neg Bool.false_ne_true]
    exact q _ G1 H1 g1 s1 (.bl false)⟩
theorem ev_notV (h : EvZ K ta ρ ρ1 (.bl b)) : EvZ K (tNotV ta) ρ ρ1 (.bl (!b)) := fun M G H σ S Q q => h M G H σ S _ fun v G1 H1 g1 s1 dv => ⟨b, dv.bl_inv, q _ G1 H1 g1 s1 (.bl _)⟩

/-! ### targets -/
/-- storing frozen data: the slots of A change -/
def TgZ (K : PySem.W.Frag) (g : TG) (A : List Nat) (d : D) (ρ ρ' : Rho) : Prop := ∀ M G H σ v, Sim K M G H σ ρ → Dz K G v d → ∀ Q : L2.St → Hp → Prop, (∀ σ', σ'.length = σ.length → (∀ i, i ∉ A → σ'[i]? = σ[i]?) → Sim K M G H σ' ρ' → Q σ' H) → g v σ H Q
theorem tg_name {i : Nat} : TgZ K (gName i) [i] d ρ (ρ.set i (.fr d)) := fun M G H σ v S dv Q q => q _ (List.length_set ..) (fun j hj => by
  have e : i ≠ j := fun z => hj (by rw [z]; exact List.mem_cons_self)
  rw [List.getElem?_set_ne e]) (S.setF dv)
def TgsZ (K : PySem.W.Frag) (g : TGs) (A : List Nat) (ds : List D) (ρ ρ' : Rho) : Prop := ∀ M G H σ vs, Sim K M G H σ ρ → Dzs K G vs ds → ∀ Q : L2.St → Hp → Prop, (∀ σ', σ'.length = σ.length → (∀ i, i ∉ A → σ'[i]? = σ[i]?) → Sim K M G H σ' ρ' → Q σ' H) → g vs σ H Q
theorem tgs_nil : TgsZ K gNil [] [] ρ ρ := fun M G H σ vs S dv Q q => by
  cases dv
  exact ⟨rfl, q σ rfl (fun _ _ => rfl) S⟩
theorem tgs_cons {g : TG} {u : TGs} {A B : List Nat} (h : TgZ K g A d ρ ρ1) (k : TgsZ K u B ds ρ1 ρ2) : TgsZ K (gCons g u) (A ++ B) (d :: ds) ρ ρ2 := fun M G H σ vs S dv Q q => by
  cases dv with
  | cons h1 h2 =>
    refine ⟨_, _, rfl, h M G H σ _ S h1 _ fun σ1 l1 k1 S1 => k M G H σ1 _ S1 h2 _ fun σ2 l2 k2 S2 => q σ2 (l2.trans l1) (fun i hi => ?_) S2⟩
    exact (k2 i fun z => hi (List.mem_append_right _ z)).trans (k1 i fun z => hi (List.mem_append_left _ z))
theorem tg_tup {n : Nat} {u : TGs} {A : List Nat} (hn : ds.length = n) (h : TgsZ K u A ds ρ ρ1) : TgZ K (gTup K n u) A (.tup ds) ρ ρ1 := fun M G H σ v S dv Q q => by
  obtain ⟨a, xs, e, hs, hz⟩ := dv.tup_inv
  exact ⟨a, xs, e, ex_t S.sub hs, by rw [hz.len]; exact hn, h M G H σ xs S hz Q q⟩
theorem keep_of {S A : List Nat} {σ σ' : L2.St} (h : ∀ i, i ∉ A → σ'[i]? = σ[i]?) (hd : ∀ i ∈ A, i ∉ S) : Keep S σ σ' := fun i hi => h i fun z => hd i z hi

/-! ### walks -/
/-- J gives the items ds, one behind the other, while G stands -/
def Walks (K : PySem.W.Frag) (G0 : Hp) (J : It) (ds : List D) : Prop := ∀ G H, Ex G0 G → Ex G H →
  (∀ (i : Nat) (d : D), ds[i]? = some d → J.go i H ∧ ∀ x H', J.yld i H x H' → ∃ G', Grow (fun _ => False) G H G' H' ∧ Ex G' H' ∧ Dz K G' x d) ∧ J.stop ds.length H
def ItZ (K : PySem.W.Frag) (wi : TI) (ρ ρ' : Rho) (ds : List D) : Prop := ∀ M G H σ, Sim K M G H σ ρ → ∀ R : It → Hp → Prop, (∀ J G' H', Grow M G H G' H' → Sim K M G' H' σ ρ' → Walks K G' J ds → R J H') → wi σ H R
theorem walks_list {G : Hp} {a : Addr} {vs : List V} (h : SqL K G a vs) (hd : Dzs K G vs ds) : Walks K G (Itl K a) ds := fun G1 H e s => by
  have hH := ex_l (e.trans s) h
  refine ⟨fun i d hi => ?_, ⟨vs, hH, by rw [hd.len]; exact Nat.le_refl _⟩⟩
  obtain ⟨v, ev, dv⟩ := hd.get hi
  refine ⟨⟨vs, v, hH, ev⟩, fun x H' hy => ?_⟩
  obtain ⟨e1, e2⟩ := hy
  have q := e2 vs hH
  rw [ev] at q
  cases q
  subst e1
  exact ⟨G1, .refl, s, dv.mono e⟩
theorem walks_tup {G : Hp} {a : Addr} {vs : List V} (h : SqT K G a vs) (hd : Dzs K G vs ds) : Walks K G (Itt K a) ds := fun G1 H e s => by
  have hH := ex_t (e.trans s) h
  refine ⟨fun i d hi => ?_, ⟨vs, hH, by rw [hd.len]; exact Nat.le_refl _⟩⟩
  obtain ⟨v, ev, dv⟩ := hd.get hi
  refine ⟨⟨vs, v, hH, ev⟩, fun x H' hy => ?_⟩
  obtain ⟨e1, e2⟩ := hy
  have q := e2 vs hH
  rw [ev] at q
  cases q
  subst e1
  exact ⟨G1, .refl, s, dv.mono e⟩
theorem it_list (h : EvZ K tl ρ ρ' (.lst ds)) : ItZ K (iList K tl) ρ ρ' ds := fun M G H σ S R q => h M G H σ S _ fun v G1 H1 g1 s1 dv => by
  obtain ⟨a, vs, e, hs, hz⟩ := dv.lst_inv
  exact ⟨a, e, ⟨vs, ex_l s1.sub hs⟩, q _ G1 H1 g1 s1 (walks_list hs hz)⟩
theorem it_tup (h : EvZ K tl ρ ρ' (.tup ds)) : ItZ K (iTup K tl) ρ ρ' ds := fun M G H σ S R q => h M G H σ S _ fun v G1 H1 g1 s1 dv => by
  obtain ⟨a, vs, e, hs, hz⟩ := dv.tup_inv
  exact ⟨a, e, ⟨vs, ex_t s1.sub hs⟩, q _ G1 H1 g1 s1 (walks_tup hs hz)⟩
/-- the signs of a text -/
def signsD (z : Str) : List D := z.cps.toList.map fun c => .str ⟨#[c]⟩
theorem it_str {z : Str} (h : EvZ K te ρ ρ' (.str z)) : ItZ K (iStr te) ρ ρ' (signsD z) := fun M G H σ S R q => h M G H σ S _ fun v G1 H1 g1 s1 dv => by
  refine ⟨z, dv.str_inv, q _ G1 H1 g1 s1 fun G2 H2 e s => ⟨fun i d hi => ?_, ?_⟩⟩
  · unfold signsD at hi
    rw [List.getElem?_map] at hi
    cases ec : z.cps.toList[i]? with
    | none => rw [ec] at hi; cases hi
    | some c =>
      rw [ec] at hi
      cases hi
      have hl := (List.getElem?_eq_some_iff.mp ec).1
      refine ⟨by show i < z.cps.size; simpa using hl, fun x H' hy => ?_⟩
      obtain ⟨e1, c', e2, e3⟩ := hy
      subst e1
      have q : c' = c := by
        have z1 : z.cps.toList[i]? = some c' := by rw [← e2]; simp
        rw [ec] at z1
        cases z1
        rfl
      subst q
      rw [e3]
      exact ⟨G2, .refl, s, .str _⟩
  · show z.cps.size ≤ (signsD z).length
    unfold signsD
    simp
/-- 0 .. n - 1 -/
def rangeD (lo : Int) (n : Nat) : List D := (List.range n).map fun (i : Nat) => D.int (lo + (i : Int))
theorem rangeD_len {lo : Int} {n : Nat} : (rangeD lo n).length = n := by unfold rangeD; rw [List.length_map, List.length_range]
theorem walks_range {G : Hp} {lo : Int} {n : Nat} : Walks K G (Itr lo n) (rangeD lo n) := fun G1 H e s => by
  refine ⟨fun i d hi => ?_, by rw [rangeD_len]; exact Nat.le_refl _⟩
  unfold rangeD at hi
  rw [List.getElem?_map] at hi
  cases ec : (List.range n)[i]? with
  | none => rw [ec] at hi; cases hi
  | some c =>
    rw [ec] at hi
    cases hi
    obtain ⟨hl, ee⟩ := List.getElem?_eq_some_iff.mp ec
    rw [List.length_range] at hl
    rw [List.getElem_range] at ee
    subst ee
    refine ⟨hl, fun x H' hy => ?_⟩
    obtain ⟨e1, e2⟩ := hy
    subst e1
    rw [e2]
    exact ⟨G1, .refl, s, .int _⟩
theorem it_range1 {tx : TA} {n : Int} (h : AgZ K tx ρ ρ' [.int n]) (hn : -(2 ^ 62) ≤ n ∧ n < 2 ^ 62) : ItZ K (iRng1 tx) ρ ρ' (rangeD 0 n.toNat) := fun M G H σ S R q => h M G H σ S _ fun vs G1 H1 g1 s1 dv => by
  cases dv with
  | cons h1 h2 =>
    cases h2
    exact ⟨n, by rw [h1.int_inv], hn.1, hn.2, q _ G1 H1 g1 s1 walks_range⟩
/-! ### comprehensions -/
/-- the comprehension's own slots forgotten -/
def wipeR (ρ : Rho) : List Nat → Rho
  | [] => ρ
  | v :: vs => (wipeR ρ vs).set v .no
theorem wipeR_len (ρ : Rho) : ∀ vs, (wipeR ρ vs).length = ρ.length
  | [] => rfl
  | v :: vs => by unfold wipeR; rw [List.length_set, wipeR_len ρ vs]
theorem wipeR_get {i : Nat} {c : Cell} (hc : c ≠ .no) : ∀ {vs : List Nat}, (wipeR ρ vs)[i]? = some c → ρ[i]? = some c ∧ i ∉ vs
  | [], h => ⟨h, by simp⟩
  | v :: vs, h => by
    unfold wipeR at h
    rcases get_set h with ⟨_, e, _⟩ | ⟨ne, h⟩
    · exact absurd e hc
    · obtain ⟨a, b⟩ := wipeR_get hc h
      exact ⟨a, fun z => by
        rcases List.mem_cons.mp z with z | z
        · exact ne z.symm
        · exact b z⟩
theorem wipe_get {σ : L2.St} {i : Nat} : ∀ {vs : List Nat}, i ∉ vs → (wipe σ vs)[i]? = σ[i]?
  | [], _ => rfl
  | v :: vs, h => by
    unfold wipe
    rw [List.getElem?_set_ne (fun z => h (by rw [z]; exact List.mem_cons_self)), wipe_get fun z => h (List.mem_cons_of_mem _ z)]
theorem wipe_in {σ σ' : L2.St} {i : Nat} (hl : σ'.length = σ.length) : ∀ {vs : List Nat}, i ∈ vs → (wipe σ' vs)[i]? = (wipe σ vs)[i]?
  | v :: vs, h => by
    unfold wipe
    by_cases e : v = i
    · subst e
      by_cases hv : v < σ.length
      · rw [List.getElem?_set_self (by rw [wipe_length, hl]; exact hv), List.getElem?_set_self (by rw [wipe_length]; exact hv)]
      · rw [List.getElem?_eq_none (by rw [List.length_set, wipe_length, hl]; omega), List.getElem?_eq_none (by rw [List.length_set, wipe_length]; omega)]
    · rw [List.getElem?_set_ne e, List.getElem?_set_ne e]
      exact wipe_in hl (by
        rcases List.mem_cons.mp h with h | h
        · exact absurd h.symm e
        · exact h)
theorem wipe_eq {σ σ' : L2.St} {vs : List Nat} (hl : σ'.length = σ.length) (h : ∀ i, i ∉ vs → σ'[i]? = σ[i]?) : wipe σ' vs = wipe σ vs := by
  apply List.ext_getElem?
  intro i
  by_cases e : i ∈ vs
  · exact wipe_in hl e
  · rw [wipe_get e, wipe_get e, h i e]
theorem Sim.wipe {M : MS} {G H : Hp} {σ σ' : L2.St} {vs : List Nat} (S : Sim K M G H σ ρ) (hl : σ'.length = σ.length) (h : ∀ i, i ∉ vs → σ'[i]? = σ[i]?) : Sim K M G H σ' (wipeR ρ vs) where
  len := by rw [wipeR_len, hl]; exact S.len
  sub := S.sub
  fr := fun {i d} e => by
    obtain ⟨a, b⟩ := wipeR_get (by simp) e
    obtain ⟨v, e1, e2⟩ := S.fr a
    exact ⟨v, by rw [h i b]; exact e1, e2⟩
  mu := fun {i d} e => by
    obtain ⟨a, b⟩ := wipeR_get (by simp) e
    obtain ⟨p, vs, e1, e2⟩ := S.mu a
    exact ⟨p, vs, by rw [h i b]; exact e1, e2⟩
  apart := fun {i j ds es p} ne e1 e2 e3 e4 => by
    obtain ⟨a, b⟩ := wipeR_get (by simp) e1
    obtain ⟨a', b'⟩ := wipeR_get (by simp) e2
    rw [h i b] at e3
    rw [h j b'] at e4
    exact S.apart ne a a' e3 e4
/-- the items ds, one turn behind the other, give rs -/
inductive CompZ (K : PySem.W.Frag) (g : TG) (tt : TT) (te : TE) (vs A : List Nat) : List D → Rho → List D → Rho → Prop
  | nil {ρ : Rho} : CompZ K g tt te vs A [] ρ [] ρ
  | yes {ρ ρ1 ρ2 ρ3 ρ4 : Rho} {d r : D} {ds rs : List D} : TgZ K g A d ρ ρ1 → TsZ K tt ρ1 ρ2 true → EvZ K te ρ2 ρ3 r → CompZ K g tt te vs A ds (wipeR ρ3 vs) rs ρ4 → CompZ K g tt te vs A (d :: ds) ρ (r :: rs) ρ4
  | no {ρ ρ1 ρ2 ρ4 : Rho} {d : D} {ds rs : List D} : TgZ K g A d ρ ρ1 → TsZ K tt ρ1 ρ2 false → CompZ K g tt te vs A ds (wipeR ρ2 vs) rs ρ4 → CompZ K g tt te vs A (d :: ds) ρ rs ρ4
theorem CompZ.le {g : TG} {vs A : List Nat} (h : CompZ K g tt te vs A ds ρ rs ρ') : rs.length ≤ ds.length := by
  induction h with
  | nil => exact Nat.le_refl _
  | yes _ _ _ _ ih => exact Nat.succ_le_succ ih
  | no _ _ _ ih => exact Nat.le_succ_of_le ih
/-- what stands between two turns: rd is made (at D), rl is to come -/
structure CompW (K : PySem.W.Frag) (g : TG) (tt : TT) (te : TE) (vs A : List Nat) (M : MS) (G1 H1 : Hp) (Dl : Addr) (σ : L2.St) (ds rs : List D) (ρ' : Rho) (i : Nat) (H : Hp) : Prop where
  ex : ∃ G ρi rd rl vd, Grow (fun a => M a ∨ a = Dl) G1 H1 G H ∧ Sim K (fun a => M a ∧ a ≠ Dl) G H (L2.wipe σ vs) ρi ∧ CompZ K g tt te vs A (ds.drop i) ρi rl ρ' ∧ rd ++ rl = rs ∧ rd.length ≤ i ∧ G Dl = none ∧ H Dl = some (.lst vd) ∧ Dzs K G vd rd
theorem sim_unwipe {M : MS} {G H : Hp} {σ : L2.St} {vs : List Nat} (S : Sim K M G H (L2.wipe σ vs) ρ) : Sim K M G H σ ρ where
  len := by rw [← S.len, wipe_length]
  sub := S.sub
  fr := fun {j d} e => by
    obtain ⟨v, e1, e2⟩ := S.fr e
    obtain ⟨a, b⟩ := wipe_some e1
    exact ⟨v, a, e2⟩
  mu := fun {j d} e => by
    obtain ⟨p, us, e1, e2⟩ := S.mu e
    obtain ⟨a, b⟩ := wipe_some e1
    exact ⟨p, us, a, e2⟩
  apart := fun {j k ds es p} ne e1 e2 e3 e4 => by
    obtain ⟨p1, us1, f1, _⟩ := S.mu e1
    obtain ⟨p2, us2, f2, _⟩ := S.mu e2
    obtain ⟨a1, b1⟩ := wipe_some f1
    obtain ⟨a2, b2⟩ := wipe_some f2
    refine S.apart ne e1 e2 (p := p) ?_ ?_
    · rw [wipe_get b1]; exact e3
    · rw [wipe_get b2]; exact e4
/-- an object that is no own list's and is not frozen changes -/
theorem Sim.other {M : MS} {G H : Hp} {σ : L2.St} {p : Addr} {o : HO} (S : Sim K M G H σ ρ) (gp : G p = none) (hn : ∀ (j : Nat) (es : MO), ρ[j]? = some (.mu es) → σ[j]? ≠ some (some (.ref p))) : Sim K M G (upd H p o) σ ρ :=
  S.grow (fun a u e => by rw [upd_ne (ne_of_none e gp)]; exact S.sub a u e) (Ex.refl _) fun q es i e1 e2 => by
    obtain ⟨q', us, e', m, gq, hq, dz⟩ := S.mu e1
    rw [e2] at e'
    cases e'
    exact ⟨upd_ne fun z => by subst z; exact hn i es e1 e2, gq⟩
theorem Sim.nin {M : MS} {G H : Hp} {σ : L2.St} {p : Addr} (S : Sim K M G H σ ρ) (h : ¬ M p) : ∀ (j : Nat) (es : MO), ρ[j]? = some (.mu es) → σ[j]? ≠ some (some (.ref p)) := fun j es e1 e2 => by
  obtain ⟨q', us, e', m, gq, hq, dz⟩ := S.mu e1
  rw [e2] at e'
  cases e'
  exact h m
theorem en_lc {wi : TI} {g : TG} {vs A : List Nat} (hi : ItZ K wi ρ ρ1 ds) (hc : CompZ K g tt te vs A ds (wipeR ρ1 vs) rs ρ') (hA : ∀ i ∈ A, i ∈ vs) (hl : ds.length ≤ 99999) : EvN K (tLc wi g tt te vs) ρ ρ' rs := fun M G H σ S Q q =>
  hi M G H σ S _ fun J G1 H1 g1 s1 wk D hD => by
    have hD0 := g1.d D hD
    have s1' : Sim K M G1 H1 (L2.wipe σ vs) (wipeR ρ1 vs) := s1.wipe (wipe_length σ vs) fun i h => wipe_get h
    refine ⟨fun i m Hh => i ≤ ds.length ∧ m = ds.length - i ∧ CompW K g tt te vs A M G1 H1 D σ ds rs ρ' i Hh, ⟨ds.length, Nat.zero_le _, rfl, ⟨G1, wipeR ρ1 vs, [], rs, [], .newO hD, ?_, hc, rfl, Nat.le_refl _, fresh_back s1.sub hD, upd_same, .nil⟩⟩, ?_⟩
    · exact (s1'.newO hD).chMo fun p es i e1 e2 => by
        obtain ⟨p', us, e', m, gp, hp, dz⟩ := s1'.mu e1
        rw [e2] at e'
        cases e'
        exact ⟨m, fun z => by subst z; rw [hD] at hp; cases hp⟩
    · rintro i m Hi ⟨hle, rfl, ⟨Gi, ρi, rd, rl, vd, gi, si, ci, er, hrd, gD, hiD, dD⟩⟩
      obtain ⟨w1, w2⟩ := wk Gi Hi gi.g si.sub
      cases hit : ds[i]? with
      | none =>
        have hge : ds.length ≤ i := List.getElem?_eq_none_iff.mp hit
        have ei : i = ds.length := Nat.le_antisymm hle hge
        subst ei
        refine .inl ⟨w2, ?_⟩
        rw [List.drop_eq_nil_of_le hge] at ci
        cases ci
        rw [List.append_nil] at er
        subst er
        have gg : Grow M G1 H1 Gi Hi := gi.wk fun a e z => by
          rcases z with z | z
          · exact z
          · subst z; exact absurd hD e
        exact q D vd Gi Hi (g1.trans gg) (sim_unwipe (si.chM fun a _ z => z.1)) hD0 gD hiD dD
      | some d =>
        obtain ⟨hlt, ed⟩ := List.getElem?_eq_some_iff.mp hit
        obtain ⟨hgo, hy⟩ := w1 i d hit
        rw [List.drop_eq_getElem_cons hlt, ed] at ci
        refine .inr ⟨hgo, CompW K g tt te vs A M G1 H1 D σ ds rs ρ' (i + 1), fun H' w => ⟨ds.length - (i + 1), by omega, by omega, rfl, w⟩, fun x H' yl => ?_⟩
        obtain ⟨G2, g2, s2, dx⟩ := hy x H' yl
        have S2 : Sim K (fun a => M a ∧ a ≠ D) G2 H' (L2.wipe σ vs) ρi := si.grow s2 g2.g fun p es j e1 e2 => by
          obtain ⟨p', us, e', m, gp, hp, dz⟩ := si.mu e1
          rw [e2] at e'
          cases e'
          exact ⟨(g2.k p _ (fun z => z) hp).trans hp.symm, g2.n p (fun z => z) (by rw [hp]; simp) gp⟩
        have hD2 : H' D = some (.lst vd) := g2.k D _ (fun z => z) hiD
        have gD2 : G2 D = none := g2.n D (fun z => z) (by rw [hiD]; simp) gD
        have gi2 : Grow (fun a => M a ∨ a = D) G1 H1 G2 H' := gi.trans (g2.wk fun a _ z => z.elim)
        have wkM : ∀ {Ga Ha Gb Hb : Hp}, Grow (fun a => M a ∧ a ≠ D) Ga Ha Gb Hb → Grow (fun a => M a ∨ a = D) Ga Ha Gb Hb := fun h => h.wk fun a _ z => .inl z.1
        cases ci with
        | yes t1 t2 t3 t4 =>
          rename_i ρa ρb ρc r rl'
          refine t1 _ G2 H' _ x S2 dx _ fun σa la ka Sa => ⟨?_, ?_⟩
          · refine (wipe_eq (σ := L2.wipe σ vs) (vs := vs) la fun j hj => ka j fun z => hj (hA j z)).trans (wipe_eq (wipe_length σ vs) fun j hj => wipe_get hj)
          · refine t2 _ G2 H' _ Sa _ fun G3 H3 g3 s3 => ?_
            rw [if_pos rfl]
            refine t3 _ G3 H3 _ s3 _ fun v G4 H4 g4 s4 dv => ?_
            have g34 := g3.trans g4
            have hD4 : H4 D = some (.lst vd) := g34.k D _ (fun z => z.2 rfl) hD2
            have gD4 : G4 D = none := g34.n D (fun z => z.2 rfl) (by rw [hD2]; simp) gD2
            have dd : Dzs K G4 (vd ++ [v]) (rd ++ [r]) := (dD.mono (g2.g.trans g34.g)).snoc dv
            have s5 : Sim K (fun a => M a ∧ a ≠ D) G4 (upd H4 D (.lst (vd ++ [v]))) σa ρc := s4.other gD4 (s4.nin fun z => z.2 rfl)
            have ga := gi2.trans (wkM g34)
            refine ⟨vd, hD4, sz_lt (by rw [dD.len]; omega), ⟨G4, wipeR ρc vs, rd ++ [r], rl', vd ++ [v], ?_, ?_, t4, by rw [List.append_assoc]; exact er, by rw [List.length_append]; show rd.length + 1 ≤ i + 1; omega, gD4, upd_same, dd⟩⟩
            · refine ⟨ga.g, fun a o m e => ?_, ga.n, fun a e => ga.d a (upd_none e)⟩
              rw [upd_ne fun z => m (.inr z)]
              exact ga.k a o m e
            · exact s5.wipe (by rw [la, wipe_length]) fun j hj => by rw [ka j fun z => hj (hA j z)]
        | no t1 t2 t4 =>
          rename_i ρa ρb
          refine t1 _ G2 H' _ x S2 dx _ fun σa la ka Sa => ⟨?_, ?_⟩
          · refine (wipe_eq (σ := L2.wipe σ vs) (vs := vs) la fun j hj => ka j fun z => hj (hA j z)).trans (wipe_eq (wipe_length σ vs) fun j hj => wipe_get hj)
          · refine t2 _ G2 H' _ Sa _ fun G3 H3 g3 s3 => ?_
            rw [if_neg Bool.false_ne_true]
            refine ⟨G3, wipeR ρb vs, rd, rl, vd, gi2.trans (wkM g3), ?_, t4, er, Nat.le_succ_of_le hrd, g3.n D (fun z => z.2 rfl) (by rw [hD2]; simp) gD2, g3.k D _ (fun z => z.2 rfl) hD2, dD.mono (g2.g.trans g3.g)⟩
            exact s3.wipe (by rw [la, wipe_length]) fun j hj => by rw [ka j fun z => hj (hA j z)]
end Z

set_option Elab.async false
set_option linter.all false
set_option maxRecDepth 100000
set_option maxHeartbeats 2000000
/-! ZDef: statements, loops, a def's promise, calls. -/
namespace Z
open PySem L2
open Evl (Ex Ex.refl Ex.trans Ex.new ex_rd ex_l ex_t sq_of st_of fresh_back sz_of sz_lt)
variable {K : PySem.W.Frag} {S : List Nat} {ρ ρ' ρ1 ρ2 ρ3 : Rho} {ta tb tc te tl : TE} {tt tu : TT} {ts us : TS} {g : TG} {A : List Nat} {d e x y : D} {ds es xs ys rs : List D} {b c : Bool} {o : Out}

/-! ### statements -/
theorem ex_next : ExZ K S tNext ρ (.nx ρ) := fun M G H σ E f s q => q G H σ .refl .refl s
theorem ex_seq (h : ExZ K S ts ρ (.nx ρ1)) (k : ExZ K S us ρ1 o) : ExZ K S (tSeq ts us) ρ o := fun M G H σ E f s q =>
  h M G H σ { E with nx := us E } f s fun G1 H1 σ1 g1 k1 s1 => k M G1 H1 σ1 E (f.grow g1) s1 (q.go g1 k1)
/-- the first statement leaves -/
theorem ex_seqR {cl : Cell} (h : ExZ K S ts ρ (.rt ρ1 cl)) : ExZ K S (tSeq ts us) ρ (.rt ρ1 cl) := fun M G H σ E f s q => h M G H σ { E with nx := us E } f s q
theorem ex_ifT (h : TsZ K tt ρ ρ1 true) (k : ExZ K S ts ρ1 o) : ExZ K S (tIfS tt ts us) ρ o := fun M G H σ E f s q => h M G H σ s _ fun G1 H1 g1 s1 => by
  rw [if_pos rfl]
  exact k M G1 H1 σ E (f.grow g1) s1 (q.go g1 .refl)
theorem ex_ifF (h : TsZ K tt ρ ρ1 false) (k : ExZ K S us ρ1 o) : ExZ K S (tIfS tt ts us) ρ o := fun M G H σ E f s q => h M G H σ s _ fun G1 H1 g1 s1 => by
  rw [if_neg Bool.false_ne_true]
  exact k M G1 H1 σ E (f.grow g1) s1 (q.go g1 .refl)
theorem ex_asg (h : EvZ K te ρ ρ1 d) (t : TgZ K g A d ρ1 ρ2) (hA : ∀ i ∈ A, i ∉ S) : ExZ K S (tAsg te g) ρ (.nx ρ2) := fun M G H σ E f s q =>
  h M G H σ s _ fun v G1 H1 g1 s1 dv => t M G1 H1 σ v s1 dv _ fun σ2 l2 k2 s2 => q G1 H1 σ2 g1 (keep_of k2 hA) s2
theorem ex_set {i : Nat} (h : EvZ K te ρ ρ1 d) (hi : i ∉ S) : ExZ K S (tAsg te (gName i)) ρ (.nx (ρ1.set i (.fr d))) :=
  ex_asg h tg_name fun j hj => by
    rcases List.mem_cons.mp hj with z | z
    · rw [z]; exact hi
    · cases z
/-- a new list of the frame's own -/
theorem ex_setN {i : Nat} (h : EvN K te ρ ρ1 ds) (ho : OwnIn ρ1 ρ) (hi : i ∉ S) : ExZ K S (tAsg te (gName i)) ρ (.nx (ρ1.set i (.own ds))) := fun M G H σ E f s q =>
  h M G H σ s _ fun p vs G1 H1 g1 s1 hp gp h1 dv => q G1 H1 _ g1 (Keep.set hi) (s1.setO (o := .lst vs) (m := .lst ds) (f p hp) gp h1 dv fun j es _ e => EvN.noOwn (vs := vs) s s1 hp ho j es e)
theorem ex_ret (h : EvZ K te ρ ρ1 d) : ExZ K S (tRet te) ρ (.rt ρ1 (.fr d)) := fun M G H σ E f s q =>
  h M G H σ s _ fun v G1 H1 g1 s1 dv => q v G1 H1 σ g1 .refl s1 dv
theorem ex_retN (h : EvN K te ρ ρ1 ds) (ho : OwnIn ρ1 ρ := by exact .refl) : ExZ K S (tRet te) ρ (.rt ρ1 (.own ds)) := fun M G H σ E f s q =>
  h M G H σ s _ fun p vs G1 H1 g1 s1 hp gp h1 dv => q _ G1 H1 σ g1 .refl s1 ⟨⟨p, .lst vs, rfl, f p hp, gp, h1, dv⟩, fun i _ n e => EvN.noOwn (vs := vs) s s1 hp ho i n e⟩
theorem ex_retM {i : Nat} {m : MO} (h : ρ[i]? = some (.mu m)) (hi : i ∉ S := by decide) : ExZ K S (tRet (tVar i)) ρ (.rt ρ (.mu m)) := fun M G H σ E f s q => by
  obtain ⟨p, o, e, r⟩ := s.mu h
  exact ⟨.ref p, e, q _ G H σ .refl .refl s ⟨⟨p, o, rfl, r⟩, fun j hj n en => s.apart (fun z => hi (by rw [z]; exact hj)) h en e⟩⟩
theorem ex_retO {i : Nat} (h : ρ[i]? = some (.own ds)) (hi : i ∉ S := by decide) : ExZ K S (tRet (tVar i)) ρ (.rt ρ (.own ds)) := ex_retM h hi
theorem ex_drop (h : EvZ K te ρ ρ1 d) : ExZ K S (tDrop te) ρ (.nx ρ1) := fun M G H σ E f s q =>
  h M G H σ s _ fun v G1 H1 g1 s1 dv => q G1 H1 σ g1 .refl s1
/-- freezing an own object -/
theorem ex_freezeM {i : Nat} {m : MO} (h : ρ[i]? = some (.mu m)) (k : ExZ K S ts (ρ.set i (.fr m.d)) o) : ExZ K S ts ρ o := fun M G H σ E f s q => by
  obtain ⟨G', g, s'⟩ := s.freezeM h
  exact k M G' H σ E (f.grow g) s' (q.go g .refl)
theorem ex_freeze {i : Nat} (h : ρ[i]? = some (.own ds)) (k : ExZ K S ts (ρ.set i (.fr (.lst ds))) o) : ExZ K S ts ρ o := ex_freezeM h k
theorem growM {M : MS} {G H : Hp} {σ : L2.St} {i : Nat} {p : Addr} {u : HO} {m : MO} (s : Sim K M G H σ ρ) (h : ρ[i]? = some (.mu m)) (e : σ[i]? = some (some (.ref p))) : Grow M G H G (upd H p u) := by
  obtain ⟨p', vs, e', m, gp, hp, dz⟩ := s.mu h
  rw [e] at e'
  cases e'
  refine ⟨Ex.refl _, fun a o n ha => ?_, fun a _ _ z => z, fun a z => upd_none z⟩
  rw [upd_ne fun z => by subst z; exact n m]
  exact ha
/-- xs.append(e), xs an own list -/
theorem ex_app {i : Nat} (h : EvZ K te ρ ρ1 d) (h0 : ρ[i]? = some (.own es)) (h1 : ρ1[i]? = some (.own ds)) (hl : ds.length < 100000) : ExZ K S (tDrop (tBM K "list" rAppend (tVar i) (tCons te tNil))) ρ (.nx (ρ1.set i (.own (ds ++ [d])))) := fun M G H σ E f s q => by
  obtain ⟨p, vs, e, m, gp, hp, dz⟩ := s.own h0
  refine ⟨.ref p, e, .inl ⟨rfl, vs, sq_of hp⟩, h M G H σ s _ fun v G1 H1 g1 s1 dv => ?_⟩
  obtain ⟨p', us, e', m', gp', hp', dz'⟩ := s1.own h1
  rw [e] at e'
  cases e'
  exact ⟨p, us, v, rfl, rfl, hp', sz_lt (by rw [dz'.len]; exact hl), q G1 _ σ (g1.trans (growM s1 h1 e)) .refl (s1.chO h1 e (dz'.snoc dv))⟩
/-- xs[k] = e, xs an own list -/
theorem ex_setAt {i : Nat} {k : Int} {j : Nat} (h : EvZ K te ρ ρ1 d) (hk : EvZ K tb ρ1 ρ2 (.int k)) (h1 : ρ1[i]? = some (.own es)) (h2 : ρ2[i]? = some (.own ds)) (hj : ixN ds.length k = some j) :
    ExZ K S (tAsg te (gSub (tVar i) tb rSetL)) ρ (.nx (ρ2.set i (.own (ds.set j d)))) := fun M G H σ E f s q =>
  h M G H σ s _ fun v G1 H1 g1 s1 dv => by
    obtain ⟨p, vs, e, m, gp, hp, dz⟩ := s1.own h1
    refine ⟨.ref p, e, hk M G1 H1 σ s1 _ fun w G2 H2 g2 s2 dw => ?_⟩
    obtain ⟨p', us, e', m', gp', hp', dz'⟩ := s2.own h2
    rw [e] at e'
    cases e'
    exact ⟨p, us, k, j, rfl, dw.int_inv, hp', by rw [dz'.len]; exact hj, q G2 _ σ ((g1.trans g2).trans (growM s2 h2 e)) .refl (s2.chO h2 e (dz'.set j (dv.mono g2.g)))⟩
/-! ### loops -/
inductive LoopZ (K : PySem.W.Frag) (S : List Nat) (g : TG) (tb : TS) (A : List Nat) : List D → Rho → Out → Prop
  | nil {ρ : Rho} : LoopZ K S g tb A [] ρ (.nx ρ)
  | step {ρ ρ1 ρ2 : Rho} {d : D} {ds : List D} {o : Out} : TgZ K g A d ρ ρ1 → ExZ K S tb ρ1 (.nx ρ2) → LoopZ K S g tb A ds ρ2 o → LoopZ K S g tb A (d :: ds) ρ o
  | cont {ρ ρ1 ρ2 : Rho} {d : D} {ds : List D} {o : Out} : TgZ K g A d ρ ρ1 → ExZ K S tb ρ1 (.ct ρ2) → LoopZ K S g tb A ds ρ2 o → LoopZ K S g tb A (d :: ds) ρ o
  | brk {ρ ρ1 ρ2 : Rho} {d : D} {ds : List D} : TgZ K g A d ρ ρ1 → ExZ K S tb ρ1 (.bk ρ2) → LoopZ K S g tb A (d :: ds) ρ (.nx ρ2)
  | ret {ρ ρ1 ρ2 : Rho} {d : D} {ds : List D} {c : Cell} : TgZ K g A d ρ ρ1 → ExZ K S tb ρ1 (.rt ρ2 c) → LoopZ K S g tb A (d :: ds) ρ (.rt ρ2 c)
theorem ex_for {wi : TI} {tb : TS} (hi : ItZ K wi ρ ρ1 ds) (hl : LoopZ K S g tb A ds ρ1 o) (hA : ∀ i ∈ A, i ∉ S) : ExZ K S (tFor wi g tb) ρ o := fun M G H σ E f s q =>
  hi M G H σ s _ fun J G1 H1 g1 s1 wk => by
    refine ⟨fun i m σ' H' => i ≤ ds.length ∧ m = ds.length - i ∧ ∃ Gi ρi, Grow M G1 H1 Gi H' ∧ Keep S σ σ' ∧ Sim K M Gi H' σ' ρi ∧ LoopZ K S g tb A (ds.drop i) ρi o, ⟨ds.length, Nat.zero_le _, rfl, G1, ρ1, .refl, .refl, s1, hl⟩, ?_⟩
    rintro i m σi Hi ⟨hle, rfl, Gi, ρi, gi, ki, si, li⟩
    obtain ⟨w1, w2⟩ := wk Gi Hi gi.g si.sub
    cases hit : ds[i]? with
    | none =>
      have hge : ds.length ≤ i := List.getElem?_eq_none_iff.mp hit
      have ei : i = ds.length := Nat.le_antisymm hle hge
      subst ei
      refine .inl ⟨w2, ?_⟩
      rw [List.drop_eq_nil_of_le hge] at li
      cases li
      exact q Gi Hi σi (g1.trans gi) ki si
    | some d =>
      obtain ⟨hlt, ed⟩ := List.getElem?_eq_some_iff.mp hit
      obtain ⟨hgo, hy⟩ := w1 i d hit
      rw [List.drop_eq_getElem_cons hlt, ed] at li
      refine .inr ⟨hgo, fun σ' H' => ∃ Gi ρi, Grow M G1 H1 Gi H' ∧ Keep S σ σ' ∧ Sim K M Gi H' σ' ρi ∧ LoopZ K S g tb A (ds.drop (i + 1)) ρi o, fun σ' H' w => ⟨ds.length - (i + 1), by omega, by omega, rfl, w⟩, fun x H' yl => ?_⟩
      obtain ⟨G2, g2, s2, dx⟩ := hy x H' yl
      have S2 : Sim K M G2 H' σi ρi := si.grow s2 g2.g fun p es j e1 e2 => by
        obtain ⟨p', us, e', m, gp, hp, dz⟩ := si.mu e1
        rw [e2] at e'
        cases e'
        exact ⟨(g2.k p _ (fun z => z) hp).trans hp.symm, g2.n p (fun z => z) (by rw [hp]; simp) gp⟩
      have ga : Grow M G1 H1 G2 H' := gi.trans (g2.wk fun a _ z => z.elim)
      have fr2 : Fresh M H' := f.grow (g1.trans ga)
      cases li with
      | step t1 t2 t3 =>
        refine t1 M G2 H' σi x S2 dx _ fun σa la ka Sa => t2 M G2 H' σa _ fr2 Sa fun G3 H3 σ3 g3 k3 s3 => ⟨G3, _, ga.trans g3, (ki.trans (keep_of ka hA)).trans k3, s3, t3⟩
      | cont t1 t2 t3 =>
        refine t1 M G2 H' σi x S2 dx _ fun σa la ka Sa => t2 M G2 H' σa _ fr2 Sa fun G3 H3 σ3 g3 k3 s3 => ⟨G3, _, ga.trans g3, (ki.trans (keep_of ka hA)).trans k3, s3, t3⟩
      | brk t1 t2 =>
        refine t1 M G2 H' σi x S2 dx _ fun σa la ka Sa => t2 M G2 H' σa _ fr2 Sa fun G3 H3 σ3 g3 k3 s3 => q G3 H3 σ3 ((g1.trans ga).trans g3) ((ki.trans (keep_of ka hA)).trans k3) s3
      | ret t1 t2 =>
        refine t1 M G2 H' σi x S2 dx _ fun σa la ka Sa => t2 M G2 H' σa _ fr2 Sa fun v G3 H3 σ3 g3 k3 s3 r3 => q v G3 H3 σ3 ((g1.trans ga).trans g3) ((ki.trans (keep_of ka hA)).trans k3) s3 r3

/-! ### a def's promise -/
def ResN (K : PySem.W.Frag) (G H0 H : Hp) (v : V) : Cell → Prop
  | .no => True
  | .fr d => Dz K G v d
  | .mu m => ∃ p o, v = .ref p ∧ H0 p = none ∧ G p = none ∧ H p = some o ∧ MOk K G o m
abbrev Rel := List Cell → Cell → List Cell → Prop
/-- called with the cells cs: the answer r, and what the own lists among the arguments are then (cs') -/
def SpZ (K : PySem.W.Frag) (R : Rel) : Sp := fun vs H Q _ => ∃ M G cs r cs', Sim K M G H (vs.map some) cs ∧ R cs r cs' ∧ ∀ v G' H', Grow M G H G' H' → Sim K M G' H' (vs.map some) cs' → ResN K G' H H' v r → Q v H'
theorem spz_len {R : Rel} {n : Nat} (hR : ∀ cs r cs', R cs r cs' → cs.length = n) : ∀ vs H Q E, SpZ K R vs H Q E → vs.length = n := fun vs H Q E ⟨M, G, cs, r, cs', s, h, _⟩ => by
  have := s.len
  rw [List.length_map] at this
  rw [this]
  exact hR _ _ _ h
/-- what the end of a body must say of the arguments -/
structure FinZ (S : List Nat) (cs cs' : List Cell) (ρ' : Rho) (r : Cell) : Prop where
  len : cs'.length = cs.length
  own : ∀ (i : Nat) (ds : MO), cs'[i]? = some (.mu ds) → i ∈ S ∧ ρ'[i]? = some (.mu ds) ∧ ∃ es, cs[i]? = some (.mu es)
  fr : ∀ (i : Nat) (d : D), cs'[i]? = some (.fr d) → cs[i]? = some (.fr d)
  res : ∀ (ds : MO), r = .mu ds → ∀ (i : Nat) (es : MO), cs[i]? = some (.mu es) → i ∈ S ∧ ∃ fs, ρ'[i]? = some (.mu fs)
theorem fin_fr {S : List Nat} {ds : List D} {ρ' : Rho} {r : Cell} : FinZ S (ds.map .fr) (ds.map .fr) ρ' r := by
  have no : ∀ (i : Nat) (es : MO), (ds.map Cell.fr)[i]? ≠ some (.mu es) := fun i es h => by
    rw [List.getElem?_map] at h
    cases e : ds[i]? with
    | none => rw [e] at h; cases h
    | some d => rw [e] at h; cases h
  exact ⟨rfl, fun i es h => absurd h (no i es), fun i d h => h, fun _ _ i es h => absurd h (no i es)⟩
/-- the first argument an own list, the others frozen -/
theorem fin_mu {S : List Nat} {ds : List D} {ρ' : Rho} {d : D} {b b' : MO} (h0 : 0 ∈ S) (h : ρ'[0]? = some (.mu b')) : FinZ S (.mu b :: ds.map .fr) (.mu b' :: ds.map .fr) ρ' (.fr d) := by
  refine ⟨rfl, fun i es h1 => ?_, fun i d h1 => ?_, fun _ z => by cases z⟩
  · cases i with
    | zero =>
      have e : b' = es := by
        have q : some (Cell.mu b') = some (Cell.mu es) := h1
        cases q; rfl
      subst e
      exact ⟨h0, h, b, rfl⟩
    | succ i =>
      have q : (ds.map Cell.fr)[i]? = some (.mu es) := h1
      rw [List.getElem?_map] at q
      cases e : ds[i]? with
      | none => rw [e] at q; cases q
      | some d => rw [e] at q; cases q
  · cases i with
    | zero =>
      have q : some (Cell.mu b') = some (Cell.fr d) := h1
      cases q
    | succ i => exact h1
theorem fin_box {S : List Nat} {ds : List D} {ρ' : Rho} {d : D} {b b' : List D} (h0 : 0 ∈ S) (h : ρ'[0]? = some (.own b')) : FinZ S (.own b :: ds.map .fr) (.own b' :: ds.map .fr) ρ' (.fr d) := fin_mu h0 h
theorem sim_start {M : MS} {G H : Hp} {vs : List V} {cs : List Cell} (s : Sim K M G H (vs.map some) cs) (n : Nat) : Sim K M G H (vs.map some ++ List.replicate n none) (cs ++ List.replicate n .no) := by
  have el : vs.length = cs.length := by have := s.len; rw [List.length_map] at this; exact this
  have key : ∀ {i : Nat} {c : Cell}, c ≠ .no → (cs ++ List.replicate n Cell.no)[i]? = some c → cs[i]? = some c ∧ (vs.map some ++ List.replicate n none)[i]? = (vs.map some)[i]? := fun {i c} hc h => by
    by_cases hi : i < cs.length
    · rw [List.getElem?_append_left hi] at h
      exact ⟨h, by rw [List.getElem?_append_left (by rw [List.length_map, el]; exact hi)]⟩
    · rw [List.getElem?_append_right (by omega)] at h
      have q := List.mem_of_getElem? h
      exact absurd (List.eq_of_mem_replicate q) hc
  refine ⟨by rw [List.length_append, List.length_append, List.length_replicate, List.length_replicate, List.length_map, el], s.sub, fun {i d} h => ?_, fun {i d} h => ?_, fun {i j d e p} ne h1 h2 h3 h4 => ?_⟩
  · obtain ⟨a, b⟩ := key (by simp) h
    obtain ⟨v, e1, e2⟩ := s.fr a
    exact ⟨v, by rw [b]; exact e1, e2⟩
  · obtain ⟨a, b⟩ := key (by simp) h
    obtain ⟨p, us, e1, e2⟩ := s.mu a
    exact ⟨p, us, by rw [b]; exact e1, e2⟩
  · obtain ⟨a, b⟩ := key (by simp) h1
    obtain ⟨a', b'⟩ := key (by simp) h2
    rw [b] at h3
    rw [b'] at h4
    exact s.apart ne a a' h3 h4
/-- a def's body -/
theorem body_z {N : List Str} {vs : List V} {H : Hp} {Q : VK} {X : XK} {R : Rel} {t : TS} (S : List Nat) (h : SpZ K R vs H Q X)
    (hb : ∀ cs r cs', R cs r cs' → ∃ ρ', (ExZ K S t (cs ++ List.replicate (N.length - cs.length) .no) (.rt ρ' r) ∨ (r = .fr .non ∧ ExZ K S t (cs ++ List.replicate (N.length - cs.length) .no) (.nx ρ'))) ∧ FinZ S cs cs' ρ' r) : t { nx := fun _ H' => Q .non H', rt := Q } (L2.start N vs) H := by
  obtain ⟨M0, G, cs, r, cs', s, hR, q⟩ := h
  obtain ⟨ρ', hx, fin⟩ := hb cs r cs' hR
  have el : vs.length = cs.length := by have := s.len; rw [List.length_map] at this; exact this
  -- the set that may change: what is new, too; nothing else if the answer is an own list
  have hM : ∃ M1 : MS, (∀ a, M1 a → M0 a) ∧ Sim K M1 G H (vs.map some) cs ∧ (∀ ds : MO, r = .mu ds → ∀ a, M1 a → ∃ (i : Nat) (es : MO), cs[i]? = some (.mu es) ∧ (vs.map some)[i]? = some (some (.ref a))) := by
    cases r with
    | mu ds =>
      refine ⟨fun a => ∃ (i : Nat) (es : MO), cs[i]? = some (.mu es) ∧ (vs.map some)[i]? = some (some (.ref a)), fun a z => ?_, s.chMo fun p es i e1 e2 => ⟨i, es, e1, e2⟩, fun _ _ a z => z⟩
      obtain ⟨i, es, e1, e2⟩ := z
      obtain ⟨p, o, e3, m, _⟩ := s.mu e1
      rw [e2] at e3
      cases e3
      exact m
    | no => exact ⟨M0, fun _ z => z, s, fun _ z => by cases z⟩
    | fr d => exact ⟨M0, fun _ z => z, s, fun _ z => by cases z⟩
  obtain ⟨M1, m01, s1, hown⟩ := hM
  have st : Sim K (fun a => M1 a ∨ H a = none) G H (L2.start N vs) (cs ++ List.replicate (N.length - cs.length) .no) := by
    unfold L2.start
    rw [el]
    exact sim_start (s1.chM fun p _ m => .inl m) _
  have post : ∀ v G' H' σ', Grow (fun a => M1 a ∨ H a = none) G H G' H' → Keep S (L2.start N vs) σ' → Sim K (fun a => M1 a ∨ H a = none) G' H' σ' ρ' → ResOk K S (fun a => M1 a ∨ H a = none) G' H' σ' ρ' v r → Q v H' := fun v G' H' σ' g k s' rs => by
    have g0 : Grow M0 G H G' H' := g.wk fun a e z => by
      rcases z with z | z
      · exact m01 a z
      · exact absurd z e
    have back : ∀ (i : Nat) (ds : MO), cs'[i]? = some (.mu ds) → σ'[i]? = (vs.map some)[i]? ∧ ρ'[i]? = some (.mu ds) := fun i ds h1 => by
      obtain ⟨a, b, es, c⟩ := fin.own i ds h1
      have hi : i < vs.length := by rw [el]; exact (List.getElem?_eq_some_iff.mp c).1
      refine ⟨(k i a).trans ?_, b⟩
      unfold L2.start
      rw [List.getElem?_append_left (by rw [List.length_map]; exact hi)]
    refine q v G' H' g0 ⟨by rw [fin.len]; exact s.len, s'.sub, fun {i d} h1 => ?_, fun {i ds} h1 => ?_, fun {i j ds es p} ne h1 h2 h3 h4 => ?_⟩ ?_
    · obtain ⟨w, e1, e2⟩ := s.fr (fin.fr i d h1)
      exact ⟨w, e1, e2.mono g.g⟩
    · obtain ⟨a, b⟩ := back i ds h1
      obtain ⟨_, _, es, c⟩ := fin.own i ds h1
      obtain ⟨p, us, e1, m1, g1, h2, dd⟩ := s'.mu b
      obtain ⟨p0, us0, e0, m0, _⟩ := s.mu c
      rw [a, e0] at e1
      cases e1
      exact ⟨p, us, e0, m0, g1, h2, dd⟩
    · obtain ⟨a1, b1⟩ := back i ds h1
      obtain ⟨a2, b2⟩ := back j es h2
      exact s'.apart ne b1 b2 (a1.trans h3) (a2.trans h4)
    · cases r with
      | no => exact trivial
      | fr d => exact rs
      | mu ds =>
        obtain ⟨⟨p, us, e1, m1, r2⟩, ap⟩ := rs
        refine ⟨p, us, e1, ?_, r2⟩
        rcases m1 with z | z
        · obtain ⟨i, es, c1, c2⟩ := hown ds rfl p z
          obtain ⟨iS, fs, c3⟩ := fin.res ds rfl i es c1
          have hi : i < vs.length := by rw [el]; exact (List.getElem?_eq_some_iff.mp c1).1
          refine absurd ?_ (ap i iS fs c3)
          rw [e1, k i iS]
          unfold L2.start
          rw [List.getElem?_append_left (by rw [List.length_map]; exact hi)]
          exact c2
        · exact z
  rcases hx with hx | ⟨er, hx⟩
  · exact hx _ G H _ _ (fun a e => .inr e) st post
  · subst er
    exact hx _ G H _ _ (fun a e => .inr e) st fun G' H' σ' g k s' => post .non G' H' σ' g k s' .non

/-! ### calls -/
theorem sim_args {G H : Hp} {vs : List V} (hd : Dzs K G vs ds) (s : Ex G H) : Sim K (fun _ => False) G H (vs.map some) (ds.map .fr) := by
  have no : ∀ {i : Nat} {es : MO}, (ds.map Cell.fr)[i]? = some (.mu es) → False := fun {i es} h => by
    rw [List.getElem?_map] at h
    cases e : ds[i]? with
    | none => rw [e] at h; cases h
    | some d => rw [e] at h; cases h
  refine ⟨by rw [List.length_map, List.length_map, hd.len], s, fun {i d} h => ?_, fun h => (no h).elim, fun _ h => (no h).elim⟩
  rw [List.getElem?_map] at h
  cases e : ds[i]? with
  | none => rw [e] at h; cases h
  | some d' =>
    rw [e] at h
    cases h
    obtain ⟨v, e1, e2⟩ := hd.get e
    exact ⟨v, by rw [List.getElem?_map, e1]; rfl, e2⟩
theorem Sim.after {M : MS} {G H G' H' : Hp} {σ : L2.St} (S : Sim K M G H σ ρ) (g : Grow (fun _ => False) G H G' H') (s : Ex G' H') : Sim K M G' H' σ ρ :=
  S.grow s g.g fun p es j e1 e2 => by
    obtain ⟨p', us, e', m, gp, hp, dz⟩ := S.mu e1
    rw [e2] at e'
    cases e'
    exact ⟨(g.k p _ (fun z => z) hp).trans hp.symm, g.n p (fun z => z) (by rw [hp]; simp) gp⟩
/-- all arguments frozen, the answer frozen -/
theorem ev_callF {R : Rel} {X : XK} {tx : TA} (h : AgZ K tx ρ ρ' ds) (hR : R (ds.map .fr) (.fr d) (ds.map .fr)) : EvZ K (tCall (SpZ K R) [] X tx) ρ ρ' d := fun M G H σ S Q q =>
  h M G H σ S _ fun vs G1 H1 g1 s1 dv => by
    rw [List.append_nil]
    refine ⟨fun _ => False, G1, ds.map .fr, .fr d, ds.map .fr, sim_args dv s1.sub, hR, fun v G' H' g s r => q v G' H' (g1.trans (g.wk fun _ _ z => z.elim)) (s1.after g s.sub) r⟩
/-- all arguments frozen, the answer a new list -/
theorem en_callF {R : Rel} {X : XK} {tx : TA} (h : AgZ K tx ρ ρ' ds) (hR : R (ds.map .fr) (.own es) (ds.map .fr)) : EvN K (tCall (SpZ K R) [] X tx) ρ ρ' es := fun M G H σ S Q q =>
  h M G H σ S _ fun vs G1 H1 g1 s1 dv => by
    rw [List.append_nil]
    refine ⟨fun _ => False, G1, ds.map .fr, .own es, ds.map .fr, sim_args dv s1.sub, hR, fun v G' H' g s r => ?_⟩
    obtain ⟨p, ou, rfl, hp, gp, hp', du⟩ := r
    obtain ⟨us, rfl, du⟩ := mok_lst du
    exact q p us G' H' (g1.trans (g.wk fun _ _ z => z.elim)) (s1.after g s.sub) (g1.d p hp) gp hp' du
/-- the first argument the own object at slot i, the others frozen -/
theorem ev_callM {R : Rel} {X : XK} {tr : TA} {i : Nat} {b0 b1 b2 : MO} (h0 : ρ[i]? = some (.mu b0)) (h : AgZ K tr ρ ρ1 ds) (h1 : ρ1[i]? = some (.mu b1)) (hR : R (.mu b1 :: ds.map .fr) (.fr d) (.mu b2 :: ds.map .fr)) :
    EvZ K (tCall (SpZ K R) [] X (tCons (tVar i) tr)) ρ (ρ1.set i (.mu b2)) d := fun M G H σ S Q q => by
  obtain ⟨p, vs, e, m, gp, hp, dz⟩ := S.mu h0
  refine ⟨.ref p, e, h M G H σ S _ fun ws G1 H1 g1 s1 dv => ?_⟩
  show SpZ K R ((V.ref p :: ws) ++ []) H1 Q X
  rw [List.append_nil]
  obtain ⟨p', us, e', m', gp', hp', dz'⟩ := s1.mu h1
  rw [e] at e'
  cases e'
  have sa := sim_args (K := K) dv s1.sub
  have s0 : Sim K (fun a => a = p) G1 H1 ((V.ref p :: ws).map some) (.mu b1 :: ds.map .fr) := by
    refine ⟨by rw [List.map_cons, List.length_cons, List.length_cons, sa.len], s1.sub, fun {j d} h => ?_, fun {j d} h => ?_, fun {j k d e q} ne h2 h3 h4 h5 => ?_⟩
    · cases j with
      | zero => exact absurd (show some (Cell.mu b1) = some (Cell.fr d) from h) (by simp)
      | succ j => exact sa.fr (i := j) h
    · cases j with
      | zero =>
        have z : some (Cell.mu b1) = some (Cell.mu d) := h
        cases z
        exact ⟨p, us, rfl, rfl, gp', hp', dz'⟩
      | succ j =>
        obtain ⟨_, _, _, z, _⟩ := sa.mu (i := j) h
        exact z.elim
    · cases j with
      | zero =>
        cases k with
        | zero => exact ne rfl
        | succ k =>
          obtain ⟨_, _, _, z, _⟩ := sa.mu (i := k) h3
          exact z.elim
      | succ j =>
        obtain ⟨_, _, _, z, _⟩ := sa.mu (i := j) h2
        exact z.elim
  refine ⟨fun a => a = p, G1, .mu b1 :: ds.map .fr, .fr d, .mu b2 :: ds.map .fr, s0, hR, fun v G' H' g s r => ?_⟩
  have gM : Grow M G1 H1 G' H' := g.wk fun a _ z => by subst z; exact m'
  obtain ⟨p2, us2, e2, m2, gp2, hp2, dz2⟩ := s.mu (i := 0) rfl
  have ep : p = p2 := by cases e2; rfl
  subst ep
  refine q v G' H' (g1.trans gM) ⟨by rw [List.length_set]; exact s1.len, s.sub, fun {j d} h => ?_, fun {j d} h => ?_, fun {j k d e2 q} ne h2 h3 h4 h5 => ?_⟩ r
  · rcases get_set h with ⟨_, z, _⟩ | ⟨_, h⟩
    · cases z
    · obtain ⟨w, a1, a2⟩ := s1.fr h
      exact ⟨w, a1, a2.mono g.g⟩
  · rcases get_set h with ⟨ej, z, _⟩ | ⟨ej, h⟩
    · subst ej
      cases z
      exact ⟨p, us2, e, m', gp2, hp2, dz2⟩
    · obtain ⟨w, ws', a1, a2, a3, a4, a5⟩ := s1.mu h
      have ne : w ≠ p := fun z => by
        subst z
        exact s1.apart ej h1 h e a1
      exact ⟨w, ws', a1, a2, g.n w ne (by rw [a4]; simp) a3, g.k w _ ne a4, a5.mono g.g⟩
  · have a1 : ∃ x, ρ1[j]? = some (.mu x) := by
      rcases get_set h2 with ⟨ej, _, _⟩ | ⟨_, h2⟩
      · subst ej; exact ⟨_, h1⟩
      · exact ⟨_, h2⟩
    have a2 : ∃ x, ρ1[k]? = some (.mu x) := by
      rcases get_set h3 with ⟨ej, _, _⟩ | ⟨_, h3⟩
      · subst ej; exact ⟨_, h1⟩
      · exact ⟨_, h3⟩
    obtain ⟨x, a1⟩ := a1
    obtain ⟨y, a2⟩ := a2
    exact s1.apart ne a1 a2 h4 h5
theorem ev_callB {R : Rel} {X : XK} {tr : TA} {i : Nat} {b0 b1 b2 : List D} (h0 : ρ[i]? = some (.own b0)) (h : AgZ K tr ρ ρ1 ds) (h1 : ρ1[i]? = some (.own b1)) (hR : R (.own b1 :: ds.map .fr) (.fr d) (.own b2 :: ds.map .fr)) :
    EvZ K (tCall (SpZ K R) [] X (tCons (tVar i) tr)) ρ (ρ1.set i (.own b2)) d := ev_callM h0 h h1 hR
end Z

set_option Elab.async false
set_option linter.all false
set_option maxRecDepth 100000
set_option maxHeartbeats 2000000
/-! ZSpec: a def as a relation of cells, its promise, calls by it; short names of readings; isinstance. -/
namespace Z
open PySem PySem.Spec PyProof.Rows L2
open Evl (Ex Ex.refl Ex.trans Ex.new ex_rd ex_l ex_t sq_of st_of fresh_back sz_of sz_lt)

/-- what the body t (n slots, m parameters) makes of the cells cs -/
def RelOf (K : PySem.W.Frag) (S : List Nat) (t : TS) (n m : Nat) : Rel := fun cs r cs' => cs.length = m ∧ ∃ ρ', (ExZ K S t (cs ++ List.replicate (n - m) .no) (.rt ρ' r) ∨ (r = .fr .non ∧ ExZ K S t (cs ++ List.replicate (n - m) .no) (.nx ρ'))) ∧ FinZ S cs cs' ρ' r
/-- R gives, from Pre, an answer of Post -/
def Spec (R : Rel) (Pre : List Cell → Prop) (Post : List Cell → Cell → List Cell → Prop) : Prop := ∀ cs, Pre cs → ∃ r cs', R cs r cs' ∧ Post cs r cs'
/-- the def x keeps the promise of R -/
structure Zdef (P : Program) (w : World) (K : PySem.W.Frag) (mg : Str → Option Value) (base : Heap) (k : Nat) (x : Str) (ps : List Str) (R : Rel) : Prop where
  ex : ∃ (f : Addr) (fd : FuncData), FnOk P w K mg base CX0 k f fd ps (SpZ K R) ∧ mg x = some (.ref f) ∧ PySem.W.keepIn K (.ref f) = true ∧ Binds K fd ps [] ∧ ∃ (oc : Value) (od : Option Addr) (osl : Array (Option Value)), K.lookup f = some ⟨oc, od, .func fd, osl⟩
theorem Fun.look {K : PySem.W.Frag} {x qual : Str} {st : Stmt} {f : Addr} {fd : FuncData} (F : Fun K x qual st f fd) : ∃ (oc : Value) (od : Option Addr) (osl : Array (Option Value)), K.lookup f = some ⟨oc, od, .func fd, osl⟩ := by
  obtain ⟨oc, od, _, _, _, _, _, _, osl, rfl, lk, _⟩ := F.ex
  exact ⟨oc, od, osl, lk⟩
theorem def_z {P : Program} {w : World} {K : PySem.W.Frag} {mg : Str → Option Value} {base : Heap} {x qual : Str} {st : Stmt} {f : Addr} {fd : FuncData} {N ps : List Str} {k n m : Nat} {t : TS} {S : List Nat} (F : Fun K x qual st f fd) (hm : mg x = some (.ref f))
    (Sc : FnScope N ps (defScope st)) (hn : N.length = n) (hp : ps.length = m) (b : Binds K fd ps [])
    (h : ∀ (cdv : Value) (A : Around) (outer : List Env) (s : Shared) (H : Hp) (E : XK), Room k (A.deeper (envOfC qual (defScope st) s.heap.objs.size f cdv)) → PSs (cxOf CX0 P w K mg base N qual (defScope st) f cdv A outer s H E).nox (defBody st) t) :
    Zdef P w K mg base (k + 1) x ps (RelOf K S t n m) := by
  subst hn
  subst hp
  refine ⟨f, fd, F.ok Sc (spz_len fun _ _ _ h => h.1) (fun cdv A outer s H vs Q E hr hsp => ⟨t, h cdv A outer s H E hr, body_z S hsp fun cs r cs' hR => ?_⟩), hm, F.kp, b, Fun.look F⟩
  obtain ⟨hl, ρ', h1, h2⟩ := hR
  rw [hl]
  exact ⟨ρ', h1, h2⟩
theorem pe_callZ {X : Cx} {k : Nat} {x : Str} {ps : List Str} {R : Rel} {e : Expr} {es : List Expr} {p pos : Pos} {t : TA} (G : Zdef X.prog X.w X.K X.mg X.base k x ps R) {j : Nat} (hr : Room j X.A) (hk : k ≤ j) (hg : Gl X x) (ha : PA X (e :: es) t)
    (hdb : (x == ("__debug__" : Str)) = false := by decide) (he : starEach (e :: es) X.env = (false, eval e X.env) :: starEach es X.env := by rfl) (hpl : (backTo pos (starEach es X.env)).any (·.1) = false := by rfl) :
    PE X (.Call (.Name x p) (e :: es) [] pos) (tCall (SpZ X.K R) [] E0 t) := by
  obtain ⟨f, fd, h1, h2, h3, h4, _⟩ := G.ex
  exact pe_call h1 (hr.mono hk) hg h2 h3 h4 .nil pass0 ha hdb he hpl

/-! ### readings by short names -/
abbrev rAddI : R2 := rI0 fun i j => .int (i + j)
abbrev rSubI : R2 := rI0 fun i j => .int (i - j)
abbrev rMulI : R2 := rI CMul fun i j => .int (i * j)
abbrev rModI : R2 := rI (fun _ j => 0 < j) fun i j => .int (i % j)
abbrev rDivI : R2 := rI CDiv fun i j => .int (i / j)
abbrev rPowI : R2 := rI CPow fun i j => .int (i ^ j.toNat)
abbrev rLtI : R2 := rI0 fun i j => .bl (decide (i < j))
abbrev rLeI : R2 := rI0 fun i j => .bl (decide (i ≤ j))
abbrev rGtI : R2 := rI0 fun i j => .bl (decide (j < i))
abbrev rGeI : R2 := rI0 fun i j => .bl (decide (j ≤ i))
abbrev rCatS : R2 := fun x y H Q => ∃ i j, x = .str i ∧ y = .str j ∧ i.length + j.length ≤ sizeLine ∧ Q (.str (i ++ j)) H
abbrev rInSg : R2 := fun x y H Q => ∃ (c : Nat) (z : Str), x = .str ⟨#[c]⟩ ∧ y = .str z ∧ Q (.bl (decide (c ∈ z.cps.toList))) H
abbrev rLenX (K : PySem.W.Frag) : List V → Hp → VK → Prop := fun xs H Q => ∃ x n, xs = [x] ∧ LenV K x H n ∧ Q (.int n) H
abbrev rToInt : List V → Hp → VK → Prop := fun xs H Q => (∃ i, xs = [.int i] ∧ Q (.int i) H) ∨ ∃ k, xs = [.bl k] ∧ Q (.int (if k then 1 else 0)) H
abbrev rIsN : R2 := fun x y H Q => y = .non ∧ Q (.bl (decide (x = .non))) H
def tTruth (K : PySem.W.Frag) (ta : TE) : TT := fun σ H Q => ta σ H fun x H' => ∃ k, TruV K x H' k ∧ Q k H'

/-! ### isinstance of data -/
section
variable {K : PySem.W.Frag} {ρ ρ' : Rho} {ta : TE} {d : D}
def tyN : D → String
  | .non => "NoneType"
  | .bl _ => "bool"
  | .int _ => "int"
  | .str _ => "str"
  | .lst _ => "list"
  | .tup _ => "tuple"
  | .dK _ => "dict"
  | .dT _ => "dict"
  | .ins _ _ => ""
  | .rng _ _ => "range"
  | .tupf _ => "tuple"
def notIns : D → Bool
  | .ins _ _ => false
  | .rng _ _ => false
  | .tupf _ => false
  | _ => true
theorem tyx_of {H : Hp} {v : V} (h : Dz K H v d) (hn : notIns d = true) : TyX K H v (.type (tyN d)) := by
  cases h with
  | non => exact .base .non
  | bl b => exact .base (.bl b)
  | int i => exact .base (.int i)
  | str x => exact .base (.str x)
  | lst h _ =>
    rcases h with (h | ⟨o, h⟩) | ⟨o, its, n, h, hc, _⟩
    · exact .base (.lst h)
    · exact .base (.frz h)
    · exact .kList h hc
  | tup h _ => exact .base (.tup h)
  | zt h =>
    obtain ⟨o, its, n, h, hc, _⟩ := h
    exact .kTuple h hc
  | dK h _ => exact .base (.dK h)
  | dT h _ => exact .base (.dT h)
  | ins _ _ => cases hn
  | rng _ => cases hn
  | tupf _ _ _ _ _ => cases hn
  | ft h _ _ => exact .fTuple h
theorem ev_isi {T : String} {b : Bool} (ha : EvZ K ta ρ ρ' d) (hk : PySem.W.kitOne K (.type (tyN d)) (.type T) = some b) (hn : notIns d = true := by rfl) : EvZ K (tCB (rIsi K) (tCons ta (tCons (tC (.ty T)) tNil))) ρ ρ' (.bl b) := fun M G H σ S Q q =>
  ha M G H σ S _ fun u G1 H1 g1 s1 du => ⟨u, .ty T, _, _, b, rfl, .ty T, tyx_of (du.mono s1.sub) hn, hk, q _ G1 H1 g1 s1 (.bl b)⟩
end
example (K : PySem.W.Frag) : PySem.W.kitOne K (.type "bool") (.type "int") = some true := by rfl
example (K : PySem.W.Frag) : PySem.W.kitOne K (.type "bool") (.type "tuple") = some false := by rfl
end Z
namespace Z
open PySem PySem.Spec PyProof.Rows L2
/-- the def never called: it keeps every promise that nothing asks -/
theorem zdef_none {P : Program} {w : World} {K : PySem.W.Frag} {mg : Str → Option Value} {base : Heap} {x qual : Str} {st : Stmt} {f : Addr} {fd : FuncData} {ps : List Str} (F : Fun K x qual st f fd) (hm : mg x = some (.ref f)) (b : Binds K fd ps []) (k : Nat) :
    Zdef P w K mg base k x ps (fun _ _ _ => False) :=
  ⟨f, fd, ⟨fun vs H Q E h => by obtain ⟨_, _, _, _, _, _, h, _⟩ := h; exact h.elim, fun A outer s H args us vs Q E hr he hb hv h => by obtain ⟨_, _, _, _, _, _, h, _⟩ := h; exact h.elim⟩, hm, F.kp, b, Fun.look F⟩
/-- the script's list as data -/
theorem dz_script {K : PySem.W.Frag} {H : Hp} {a : Addr} {ns : List Int} (h : SqL K H a (ns.map V.int)) : Dz K H (.ref a) (.lst (ns.map .int)) := .lst h (.of_ints ns)
/-- the promise of a law: whatever the script, True -/
def SpLaw (K : PySem.W.Frag) : Sp := fun vs H Q _ => ∃ (a : Addr) (ns : List Int), vs = [.ref a] ∧ SqL K H a (ns.map V.int) ∧ ∀ H', Q (.bl true) H'
theorem law_imp {K : PySem.W.Frag} {R : Rel} (hR : ∀ ns : List Int, R [.fr (.lst (ns.map .int))] (.fr (.bl true)) [.fr (.lst (ns.map .int))]) : ∀ vs H Q E, SpLaw K vs H Q E → SpZ K R vs H Q E := fun vs H Q E ⟨a, ns, hv, hs, q⟩ => by
  subst hv
  refine ⟨fun _ => False, H, [.fr (.lst (ns.map .int))], .fr (.bl true), [.fr (.lst (ns.map .int))], sim_args (ds := [.lst (ns.map .int)]) (.cons (dz_script hs) .nil) (fun _ _ h => h), hR ns, fun v G' H' _ _ r => ?_⟩
  have e : v = .bl true := Dz.bl_inv r
  rw [e]
  exact q H'
/-- a tuple of the module's own: texts -/
theorem dz_kept {K : PySem.W.Frag} {a : Addr} {o : Obj} {its : Array Value} {n : Nat} {xs : List V} {ds : List D} (h : K.lookup a = some o) (hc : o.cls = .type "tuple") (hd : o.data = .seq its n) (hz : its.size ≤ sizeLine) (hv : Vals xs its.toList) (hx : ∀ H, Dzs K H xs ds) : ∀ H, DzR K H (.ref a) (.tup ds) := fun H =>
  .kept rfl rfl (.inr ⟨o, its, n, h, hc, hd, hz, hv⟩) (hx H)
end Z
namespace Z
open PySem PySem.Spec PyProof.Rows L2
/-- the law's def, by its record -/
theorem law_fd {P : Program} {w : World} {K : PySem.W.Frag} {mg : Str → Option Value} {base : Heap} {k : Nat} {x : Str} {ps : List Str} {R : Rel} {f : Addr} {fd : FuncData} {sp : Sp} {oc : Value} {od : Option Addr} {sl : Array (Option Value)} (Z : Zdef P w K mg base k x ps R) (hf : mg x = some (.ref f))
    (l : K.lookup f = some ⟨oc, od, .func fd, sl⟩) (q : ∀ vs H Q E, sp vs H Q E → SpZ K R vs H Q E) : FnOk P w K mg base CX0 k f fd ps sp := by
  obtain ⟨f', fd', h1, h2, h3, h4, oc', od', sl', l'⟩ := Z.ex
  rw [hf] at h2
  cases h2
  rw [l] at l'
  cases l'
  exact h1.imp q
end Z

set_option Elab.async false
set_option linter.all false
set_option maxRecDepth 100000
set_option maxHeartbeats 2000000
/-! ZMore: forms of the rules that are used often. -/
namespace Z
open PySem PySem.Spec PyProof.Rows L2
open Evl (Ex Ex.refl Ex.trans Ex.new ex_rd ex_l ex_t sq_of st_of fresh_back sz_of sz_lt)
variable {K : PySem.W.Frag} {S : List Nat} {ρ ρ' ρ1 ρ2 ρ3 : Rho} {ta tb tc te tl : TE} {tt tu : TT} {ts us : TS} {g : TG} {A : List Nat} {d e x y : D} {ds es xs ys rs : List D} {b c : Bool} {o : Out}
/-- an if that leaves, or is gone by -/
theorem ex_when {cl : Cell} (h : TsZ K tt ρ ρ1 b) (h1 : b = true → ∃ ρ2, ExZ K S ts ρ1 (.rt ρ2 cl)) (h2 : b = false → ∃ ρ2, ExZ K S us ρ1 (.rt ρ2 cl)) : ∃ ρ2, ExZ K S (tSeq (tIfS tt ts tNext) us) ρ (.rt ρ2 cl) := by
  cases b with
  | true =>
    obtain ⟨ρ2, h3⟩ := h1 rfl
    exact ⟨ρ2, ex_seqR (ex_ifT h h3)⟩
  | false =>
    obtain ⟨ρ2, h3⟩ := h2 rfl
    exact ⟨ρ2, ex_seq (ex_ifF h ex_next) h3⟩
theorem set_no {j : Nat} {c : Cell} (h : ρ[j]? = some .no) : wipeR (ρ.set j c) [j] = ρ := by
  show (ρ.set j c).set j .no = ρ
  rw [List.set_set]
  apply List.ext_getElem?
  intro i
  by_cases e : j = i
  · subst e
    rw [List.getElem?_set_self (List.getElem?_eq_some_iff.mp h).1, h]
  · rw [List.getElem?_set_ne e]
/-- [f(x) for x in ds], nothing else changes -/
theorem comp_map {j : Nat} (f : D → D) (hj : ρ[j]? = some .no) : ∀ (ds : List D), (∀ d ∈ ds, EvZ K te (ρ.set j (.fr d)) (ρ.set j (.fr d)) (f d)) → CompZ K (gName j) tYes te [j] [j] ds ρ (ds.map f) ρ
  | [], _ => .nil
  | d :: ds, h => by
    refine .yes tg_name ts_yes (h d List.mem_cons_self) ?_
    rw [set_no hj]
    exact comp_map f hj ds fun d' hd => h d' (List.mem_cons_of_mem _ hd)
/-- the same where the items are those of a list of something -/
theorem comp_mapA {α : Type} {j : Nat} (u : α → D) (f : α → D) (hj : ρ[j]? = some .no) : ∀ (as : List α), (∀ a ∈ as, EvZ K te (ρ.set j (.fr (u a))) (ρ.set j (.fr (u a))) (f a)) → CompZ K (gName j) tYes te [j] [j] (as.map u) ρ (as.map f) ρ
  | [], _ => .nil
  | d :: ds, h => by
    refine .yes tg_name ts_yes (h d List.mem_cons_self) ?_
    rw [set_no hj]
    exact comp_mapA u f hj ds fun d' hd => h d' (List.mem_cons_of_mem _ hd)
def isNo : D → Bool
  | .non => true
  | _ => false
theorem ev_isN (ha : EvZ K ta ρ ρ1 d) : EvZ K (tOp rIsN ta (tC .non)) ρ ρ1 (.bl (isNo d)) :=
  ev_op ha ev_non.rd fun u v G H Q _ du dv q => by
    refine ⟨dv.non_inv, ?_⟩
    cases du <;> exact q _ (.bl _)
theorem rangeD_cons {m n : Nat} : rangeD (m : Int) (n + 1) = .int (m : Int) :: rangeD ((m + 1 : Nat) : Int) n := by
  unfold rangeD
  rw [List.range_succ_eq_map, List.map_cons, List.map_map]
  have h0 : (m : Int) + ((0 : Nat) : Int) = (m : Int) := by omega
  rw [h0]
  refine congrArg _ (List.map_congr_left fun i _ => ?_)
  show D.int ((m : Int) + ((i + 1 : Nat) : Int)) = D.int (((m + 1 : Nat) : Int) + (i : Int))
  exact congrArg D.int (by omega)
theorem rangeD_get {lo : Int} {n : Nat} {d : D} (h : d ∈ rangeD lo n) : ∃ i : Nat, i < n ∧ d = .int (lo + (i : Int)) := by
  unfold rangeD at h
  obtain ⟨i, hi, e⟩ := List.mem_map.mp h
  exact ⟨i, List.mem_range.mp hi, e.symm⟩
end Z

set_option Elab.async false
set_option linter.all false
set_option maxRecDepth 100000
set_option maxHeartbeats 2000000
/-! LawA: what the helpers of a law that draw from the script come to. -/
namespace Z
open PySem PySem.Spec PyProof.Rows L2
open Evl (Ex Ex.refl Ex.trans Ex.new ex_rd ex_l ex_t sq_of st_of fresh_back sz_of sz_lt)
def t__law_cell (K : PySem.W.Frag) : TS :=
  (tSeq (tIfS (tTest (tOp rLtI (tVar 1) (tCB (rLenX K) (tCons (tVar 0) tNil)))) (tRet (tCB rToInt (tCons (tOp (rIx K) (tVar 0) (tVar 1)) tNil))) tNext)
      (tRet (tC (.int 0))))

def b__law_digits_1 (K : PySem.W.Frag) : TS :=
  (tIfS (tTest (tOp rGtI (tVar 0) (tC (.int 0)))) (tSeq (tDrop (tBM K "list" rAppend (tVar 2) (tCons (tOp rModI (tCB rToInt (tCons (tVar 0) tNil)) (tC (.int 1000))) tNil)))
      (tAsg (tOp rDivI (tVar 0) (tC (.int 1000))) (gName 0))) tNext)
def b__law_digits_2 (K : PySem.W.Frag) : TS :=
  (tSeq (tAsg (tOp rModI (tCB rToInt (tCons (tOp rAddI (tOp rAddI (tOp rMulI (tVar 4) (tC (.int 16807))) (tOp rMulI (tC (.int 7)) (tVar 3))) (tC (.int 1))) tNil)) (tC (.int 2147483647))) (gName 4))
      (tDrop (tBM K "list" rAppend (tVar 2) (tCons (tOp rModI (tCB rToInt (tCons (tOp rDivI (tVar 4) (tC (.int 997))) tNil)) (tC (.int 1000))) tNil))))
def t__law_digits (K : PySem.W.Frag) : TS :=
  (tSeq (tAsg (tLst tNil) (gName 2))
      (tSeq (tIfS (tTest (tOp rLtI (tVar 0) (tC (.int 0)))) (tAsg (tOp rSubI (tC (.int 1)) (tOp rMulI (tC (.int 2)) (tVar 0))) (gName 0)) tNext)
      (tSeq (tIfS (tTest (tOp rGeI (tVar 0) (tOp rPowI (tC (.int 10)) (tC (.int 18))))) (tFor (iRng1 (tCons (tC (.int 60)) tNil)) (gName 3) (b__law_digits_1 K)) (tSeq (tAsg (tOp rModI (tCB rToInt (tCons (tOp rAddI (tOp rAddI (tOp rMulI (tVar 0) (tC (.int 48271))) (tOp rMulI (tVar 1) (tC (.int 69621)))) (tC (.int 11))) tNil)) (tC (.int 2147483647))) (gName 4))
      (tFor (iRng1 (tCons (tC (.int 60)) tNil)) (gName 3) (b__law_digits_2 K))))
      (tRet (tVar 2)))))

def t__law_box (K : PySem.W.Frag) (R__law_cell : Rel) (R__law_digits : Rel) : TS :=
  (tRet (tLst (tCons (tCall (SpZ K R__law_digits) [] E0 (tCons (tCall (SpZ K R__law_cell) [] E0 (tCons (tVar 0) (tCons (tVar 1) tNil))) (tCons (tVar 1) tNil))) (tCons (tC (.int 0)) tNil))))

def t__law_draw (K : PySem.W.Frag) : TS :=
  (tSeq (tAsg (tOp (rIx K) (tVar 0) (tC (.int 1))) (gName 2))
      (tSeq (tAsg (tOp rAddI (tVar 2) (tC (.int 1))) (gSub (tVar 0) (tC (.int 1)) rSetL))
      (tSeq (tIfS (tTest (tOp rLtI (tVar 2) (tCB (rLenX K) (tCons (tOp (rIx K) (tVar 0) (tC (.int 0))) tNil)))) (tRet (tOp rModI (tCB rToInt (tCons (tOp (rIx K) (tOp (rIx K) (tVar 0) (tC (.int 0))) (tVar 2)) tNil)) (tVar 1))) tNext)
      (tRet (tC (.int 0))))))

def t__law_is_integer (K : PySem.W.Frag) : TS :=
  (tRet (tAndV (tCB (rIsi K) (tCons (tVar 0) (tCons (tC (.ty "int")) tNil))) (tNotV (tCB (rIsi K) (tCons (tVar 0) (tCons (tC (.ty "bool")) tNil))))))

def e__law_same_1 (K : PySem.W.Frag) (R__law_is_integer : Rel) (R__law_same : Rel) : TE :=
  (tCall (SpZ K R__law_same) [] E0 (tCons (tOp (rIx K) (tVar 0) (tVar 2)) (tCons (tOp (rIx K) (tVar 1) (tVar 2)) tNil)))
def t__law_same (K : PySem.W.Frag) (R__law_is_integer : Rel) (R__law_same : Rel) : TS :=
  (tSeq (tIfS (tB (tCB (rIsi K) (tCons (tVar 1) (tCons (tC (.ty "tuple")) tNil)))) (tSeq (tIfS (tOr (tNot (tB (tCB (rIsi K) (tCons (tVar 0) (tCons (tC (.ty "tuple")) tNil))))) (tTest (tOp rNe (tCB (rLenX K) (tCons (tVar 0) tNil)) (tCB (rLenX K) (tCons (tVar 1) tNil))))) (tRet (tC (.bl false))) tNext)
      (tRet (tCB (rAll K) (tCons (tLc (iRng1 (tCons (tCB (rLenX K) (tCons (tVar 1) tNil)) tNil)) (gName 2) tYes (e__law_same_1 K R__law_is_integer R__law_same) [2]) tNil)))) tNext)
      (tSeq (tIfS (tB (tCB (rIsi K) (tCons (tVar 1) (tCons (tC (.ty "bool")) tNil)))) (tRet (tAndV (tCB (rIsi K) (tCons (tVar 0) (tCons (tC (.ty "bool")) tNil))) (tOp rEq (tVar 0) (tVar 1)))) tNext)
      (tSeq (tIfS (tB (tCB (rIsi K) (tCons (tVar 1) (tCons (tC (.ty "int")) tNil)))) (tRet (tAndV (tCall (SpZ K R__law_is_integer) [] E0 (tCons (tVar 0) tNil)) (tOp rEq (tVar 0) (tVar 1)))) tNext)
      (tSeq (tIfS (tB (tCB (rIsi K) (tCons (tVar 1) (tCons (tC (.ty "str")) tNil)))) (tRet (tAndV (tCB (rIsi K) (tCons (tVar 0) (tCons (tC (.ty "str")) tNil))) (tOp rEq (tVar 0) (tVar 1)))) tNext)
      (tRet (tAndV (tOp rIsN (tVar 0) (tC .non)) (tOp rIsN (tVar 1) (tC .non))))))))

def e__law_is_word_1 (K : PySem.W.Frag) : TE :=
  (tOp rInSg (tVar 1) (tC (.str "abcdefghijklmnopqrstuvwxyz")))
def t__law_is_word (K : PySem.W.Frag) : TS :=
  (tSeq (tIfS (tOr (tTest (tOp rLtI (tCB (rLenX K) (tCons (tVar 0) tNil)) (tC (.int 1)))) (tOr (tTest (tOp rGtI (tCB (rLenX K) (tCons (tVar 0) tNil)) (tC (.int 8)))) (tTest (tOp (rIn K false) (tVar 0) (tTup (tCons (tC (.str "sum")) (tCons (tC (.str "where")) (tCons (tC (.str "in")) (tCons (tC (.str "and")) tNil))))))))) (tRet (tC (.bl false))) tNext)
      (tRet (tCB (rAll K) (tCons (tLc (iStr (tVar 0)) (gName 1) tYes (e__law_is_word_1 K) [1]) tNil))))

def b__law_a_text_1 (K : PySem.W.Frag) (R__law_draw : Rel) : TS :=
  (tAsg (tOp rCatS (tVar 2) (tOp (rIx K) (tVar 1) (tCall (SpZ K R__law_draw) [] E0 (tCons (tVar 0) (tCons (tC (.int 26)) tNil))))) (gName 2))
def t__law_a_text (K : PySem.W.Frag) (R__law_draw : Rel) : TS :=
  (tSeq (tAsg (tC (.str "abcdefghijklmnopqrstuvwxyz")) (gName 1))
      (tSeq (tIfS (tTest (tOp rEq (tCall (SpZ K R__law_draw) [] E0 (tCons (tVar 0) (tCons (tC (.int 6)) tNil))) (tC (.int 0)))) (tRet (tOp (rIx K) (tTup (tCons (tC (.str "sum")) (tCons (tC (.str "where")) (tCons (tC (.str "in")) (tCons (tC (.str "and")) (tCons (tC (.str "ands")) (tCons (tC (.str "su")) tNil))))))) (tCall (SpZ K R__law_draw) [] E0 (tCons (tVar 0) (tCons (tC (.int 6)) tNil))))) tNext)
      (tSeq (tAsg (tC (.str "")) (gName 2))
      (tSeq (tFor (iRng1 (tCons (tCall (SpZ K R__law_draw) [] E0 (tCons (tVar 0) (tCons (tC (.int 10)) tNil))) tNil)) (gName 3) (b__law_a_text_1 K R__law_draw))
      (tSeq (tIfS (tTest (tOp rEq (tCall (SpZ K R__law_draw) [] E0 (tCons (tVar 0) (tCons (tC (.int 3)) tNil))) (tC (.int 0)))) (tSeq (tAsg (tCall (SpZ K R__law_draw) [] E0 (tCons (tVar 0) (tCons (tOp rAddI (tCB (rLenX K) (tCons (tVar 2) tNil)) (tC (.int 1))) tNil))) (gName 4))
      (tAsg (tOp rCatS (tOp rCatS (tSl rSlS (tVar 2) tNoPart (tPart (tVar 4))) (tOp (rIx K) (tC (.str "AZ09 /-_*\n")) (tCall (SpZ K R__law_draw) [] E0 (tCons (tVar 0) (tCons (tC (.int 10)) tNil))))) (tSl rSlS (tVar 2) (tPart (tVar 4)) tNoPart)) (gName 2))) tNext)
      (tRet (tVar 2)))))))

def e_is_word_1 (K : PySem.W.Frag) (c_KEPT_WORDS : V) (c_LETTERS : V) (c_LONGEST_WORD : V) : TE :=
  (tOp rInSg (tVar 1) (tC c_LETTERS))
def t_is_word (K : PySem.W.Frag) (c_KEPT_WORDS : V) (c_LETTERS : V) (c_LONGEST_WORD : V) : TS :=
  (tSeq (tIfS (tOr (tTest (tOp (rIn K false) (tVar 0) (tC c_KEPT_WORDS))) (tNot (tTest (tChain rLeI rLeI (tC (.int 1)) (tCB (rLenX K) (tCons (tVar 0) tNil)) (tC c_LONGEST_WORD))))) (tRet (tC (.bl false))) tNext)
      (tRet (tCB (rAll K) (tCons (tLc (iStr (tVar 0)) (gName 1) tYes (e_is_word_1 K c_KEPT_WORDS c_LETTERS c_LONGEST_WORD) [1]) tNil))))

section
variable {K : PySem.W.Frag}
/-! ### _law_cell -/
def PreCell (cs : List Cell) : Prop := ∃ (ns : List Int) (k : Nat), cs = [.fr (.lst (ns.map .int)), .fr (.int (k : Int))]
def PostCell (cs : List Cell) (r : Cell) (cs' : List Cell) : Prop := cs' = cs ∧ ∃ i : Int, r = .fr (.int i)
theorem sem_cell : Spec (RelOf K [] (t__law_cell K) 2 2) PreCell PostCell := by
  rintro _ ⟨ns, k, rfl⟩
  have key : ∃ (i : Int) (ρ2 : Rho), ExZ K [] (t__law_cell K) [.fr (.lst (ns.map .int)), .fr (.int (k : Int))] (.rt ρ2 (.fr (.int i))) := by
    have ht := ts_test (ev_lt (K := K) (ρ := [.fr (.lst (ns.map .int)), .fr (.int (k : Int))]) (ev_var (i := 1) rfl) (ev_lenL (ev_var (i := 0) rfl).rd))
    by_cases h : k < ns.length
    · refine ⟨ns[k], _, ex_seqR (ex_ifT (ts_is ht ?_) (ex_ret (ev_toInt (ev_ixL (ev_var rfl) (ev_var rfl) (at_nat (j := k) ?_)))))⟩
      · rw [List.length_map]
        exact decide_eq_true (by omega)
      · rw [List.getElem?_map, List.getElem?_eq_getElem h]
        rfl
    · refine ⟨0, _, ex_seq (ex_ifF (ts_is ht ?_) ex_next) (ex_ret ev_int)⟩
      rw [List.length_map]
      exact decide_eq_false (by omega)
  obtain ⟨i, ρ2, h⟩ := key
  exact ⟨_, _, ⟨rfl, ρ2, .inl h, fin_fr (ds := [.lst (ns.map .int), .int (k : Int)])⟩, rfl, i, rfl⟩
/-! ### _law_digits -/
def Nn (ds : List Int) : Prop := ∀ d ∈ ds, 0 ≤ d
theorem Nn.snoc {ds : List Int} {d : Int} (h : Nn ds) (hd : 0 ≤ d) : Nn (ds ++ [d]) := fun x hx => by
  rcases List.mem_append.mp hx with hx | hx
  · exact h x hx
  · rcases List.mem_cons.mp hx with z | z
    · rw [z]; exact hd
    · cases z
def PreDig (cs : List Cell) : Prop := ∃ (c a : Int), cs = [.fr (.int c), .fr (.int a)] ∧ -1000000 ≤ a ∧ a ≤ 1000000
def PostDig (cs : List Cell) (r : Cell) (cs' : List Cell) : Prop := cs' = cs ∧ ∃ ds : List Int, Nn ds ∧ ds.length ≤ 60 ∧ r = .own (ds.map .int)
theorem map_snoc (ds : List Int) (d : Int) : ds.map D.int ++ [D.int d] = (ds ++ [d]).map D.int := by rw [List.map_append]; rfl
theorem dig_loop1 (a : Int) (sv : Cell) : ∀ (n m : Nat) (c : Int) (ds : List Int) (tv : Cell), 0 ≤ c → Nn ds → ds.length ≤ m → m + n ≤ 60 → ∃ c' ds' tv', 0 ≤ c' ∧ Nn ds' ∧ ds'.length ≤ 60 ∧
    LoopZ K [] (gName 3) (b__law_digits_1 K) [3] (rangeD (m : Int) n) [.fr (.int c), .fr (.int a), .own (ds.map .int), tv, sv] (.nx [.fr (.int c'), .fr (.int a), .own (ds'.map .int), tv', sv])
  | 0, m, c, ds, tv, hc, hn, hl, hm => ⟨c, ds, tv, hc, hn, by omega, .nil⟩
  | n + 1, m, c, ds, tv, hc, hn, hl, hm => by
    rw [rangeD_cons]
    have ht := ts_test (ev_gt (K := K) (ρ := [.fr (.int c), .fr (.int a), .own (ds.map .int), .fr (.int (m : Int)), sv]) (ev_var (i := 0) rfl) (ev_int (i := 0)))
    by_cases h : 0 < c
    · obtain ⟨c', ds', tv', h1, h2, h3, h4⟩ := dig_loop1 a sv n (m + 1) (c / 1000) (ds ++ [c % 1000]) (.fr (.int (m : Int))) (by omega) (hn.snoc (by omega)) (by rw [List.length_append]; show ds.length + 1 ≤ m + 1; omega) (by omega)
      refine ⟨c', ds', tv', h1, h2, h3, .step tg_name (ex_ifT (ts_is ht (decide_eq_true h)) (ex_seq (ex_app (i := 2) (ev_mod (ev_toInt (ev_var rfl)) ev_int (by decide)) rfl rfl (by rw [List.length_map]; omega)) (ex_set (i := 0) (ev_fdiv (ev_var rfl) ev_int ⟨by decide, by decide⟩) (by decide)))) ?_⟩
      rw [← map_snoc] at h4
      exact h4
    · obtain ⟨c', ds', tv', h1, h2, h3, h4⟩ := dig_loop1 a sv n (m + 1) c ds (.fr (.int (m : Int))) hc hn (by omega) (by omega)
      exact ⟨c', ds', tv', h1, h2, h3, .step tg_name (ex_ifF (ts_is ht (decide_eq_false h)) ex_next) h4⟩
theorem dig_loop2 (c a : Int) : ∀ (n m : Nat) (s : Int) (ds : List Int) (tv : Cell), 0 ≤ s → s < 2147483647 → Nn ds → ds.length ≤ m → m + n ≤ 60 → ∃ s' ds' tv', Nn ds' ∧ ds'.length ≤ 60 ∧
    LoopZ K [] (gName 3) (b__law_digits_2 K) [3] (rangeD (m : Int) n) [.fr (.int c), .fr (.int a), .own (ds.map .int), tv, .fr (.int s)] (.nx [.fr (.int c), .fr (.int a), .own (ds'.map .int), tv', .fr (.int s')])
  | 0, m, s, ds, tv, h0, h1, hn, hl, hm => ⟨s, ds, tv, hn, by omega, .nil⟩
  | n + 1, m, s, ds, tv, h0, h1, hn, hl, hm => by
    rw [rangeD_cons]
    have hs0 : 0 ≤ (s * 16807 + 7 * (m : Int) + 1) % 2147483647 := by omega
    have hs1 : (s * 16807 + 7 * (m : Int) + 1) % 2147483647 < 2147483647 := by omega
    obtain ⟨s', ds', tv', h2, h3, h4⟩ := dig_loop2 c a n (m + 1) ((s * 16807 + 7 * (m : Int) + 1) % 2147483647) (ds ++ [(s * 16807 + 7 * (m : Int) + 1) % 2147483647 / 997 % 1000]) (.fr (.int (m : Int))) hs0 hs1 (hn.snoc (by omega)) (by rw [List.length_append]; show ds.length + 1 ≤ m + 1; omega) (by omega)
    refine ⟨s', ds', tv', h2, h3, .step tg_name (ex_seq (ex_set (i := 4) (ev_mod (ev_toInt (ev_add (ev_add (ev_mul (ev_var rfl) ev_int (.inl ⟨by omega, by omega⟩)) (ev_mul ev_int (ev_var rfl) (.inl ⟨by decide, by decide⟩))) ev_int)) ev_int (by decide)) (by decide))
      (ex_app (i := 2) (ev_mod (ev_toInt (ev_fdiv (ev_var rfl) ev_int ⟨by decide, by decide⟩)) ev_int (by decide)) rfl rfl (by rw [List.length_map]; omega))) ?_⟩
    rw [← map_snoc] at h4
    exact h4
theorem sem_digits : Spec (RelOf K [] (t__law_digits K) 5 2) PreDig PostDig := by
  rintro _ ⟨c, a, rfl, ha, hb⟩
  have key : ∃ (ds : List Int) (ρ2 : Rho), Nn ds ∧ ds.length ≤ 60 ∧ ExZ K [] (t__law_digits K) [.fr (.int c), .fr (.int a), .no, .no, .no] (.rt ρ2 (.own (ds.map .int))) := by
    -- cell, made at least 0
    have h1 : ∃ c1 : Int, 0 ≤ c1 ∧ ExZ K [] (tIfS (tTest (tOp rLtI (tVar 0) (tC (.int 0)))) (tAsg (tOp rSubI (tC (.int 1)) (tOp rMulI (tC (.int 2)) (tVar 0))) (gName 0)) tNext) [.fr (.int c), .fr (.int a), .own [], .no, .no] (.nx [.fr (.int c1), .fr (.int a), .own [], .no, .no]) := by
      have ht := ts_test (ev_lt (K := K) (ρ := [.fr (.int c), .fr (.int a), .own [], .no, .no]) (ev_var (i := 0) rfl) (ev_int (i := 0)))
      by_cases h : c < 0
      · exact ⟨1 - 2 * c, by omega, ex_ifT (ts_is ht (decide_eq_true h)) (ex_set (i := 0) (ev_sub ev_int (ev_mul ev_int (ev_var rfl) (.inl ⟨by decide, by decide⟩))) (by decide))⟩
      · exact ⟨c, by omega, ex_ifF (ts_is ht (decide_eq_false h)) ex_next⟩
    obtain ⟨c1, hc1, h1⟩ := h1
    have ht := ts_test (ev_ge (K := K) (ρ := [.fr (.int c1), .fr (.int a), .own [], .no, .no]) (ev_var (i := 0) rfl) (ev_pow (ev_int (i := 10)) (ev_int (i := 18)) ⟨by decide, by decide, by decide⟩))
    by_cases h : (10 : Int) ^ (18 : Int).toNat ≤ c1
    · obtain ⟨c', ds', tv', h2, h3, h4, h5⟩ := dig_loop1 (K := K) a .no 60 0 c1 [] .no hc1 (fun _ z => by cases z) (Nat.le_refl 0) (Nat.le_refl 60)
      exact ⟨ds', _, h3, h4, ex_seq (ex_setN (i := 2) (en_lst ag_nil (by decide)) OwnIn.refl (by decide)) (ex_seq h1 (ex_seq (ex_ifT (ts_is ht (decide_eq_true h)) (ex_for (it_range1 (ag_cons ev_int ag_nil) ⟨by decide, by decide⟩) h5 (by decide))) (ex_retO (i := 2) rfl)))⟩
    · have hlt : c1 < 1000000000000000000 := by
        have e : (10 : Int) ^ (18 : Int).toNat = 1000000000000000000 := by decide
        rw [e] at h
        omega
      obtain ⟨s', ds', tv', h3, h4, h5⟩ := dig_loop2 (K := K) c1 a 60 0 ((c1 * 48271 + a * 69621 + 11) % 2147483647) [] .no (by omega) (by omega) (fun _ z => by cases z) (Nat.le_refl 0) (Nat.le_refl 60)
      exact ⟨ds', _, h3, h4, ex_seq (ex_setN (i := 2) (en_lst ag_nil (by decide)) OwnIn.refl (by decide)) (ex_seq h1 (ex_seq (ex_ifF (ts_is ht (decide_eq_false h)) (ex_seq (ex_set (i := 4) (ev_mod (ev_toInt (ev_add (ev_add (ev_mul (ev_var rfl) ev_int (.inl ⟨by omega, by omega⟩)) (ev_mul (ev_var rfl) ev_int (.inl ⟨by omega, by omega⟩))) ev_int)) ev_int (by decide)) (by decide)) (ex_for (it_range1 (ag_cons ev_int ag_nil) ⟨by decide, by decide⟩) h5 (by decide)))) (ex_retO (i := 2) rfl)))⟩
  obtain ⟨ds, ρ2, h1, h2, h3⟩ := key
  exact ⟨_, _, ⟨rfl, ρ2, .inl h3, fin_fr (ds := [.int c, .int a])⟩, rfl, ds, h1, h2, rfl⟩
/-! ### _law_box -/
def GoodBox (b : List D) : Prop := ∃ (ds : List Int) (p : Nat), Nn ds ∧ ds.length ≤ 60 ∧ b = [.lst (ds.map .int), .int (p : Int)]
def PreBox (cs : List Cell) : Prop := ∃ (ns : List Int) (k : Nat), cs = [.fr (.lst (ns.map .int)), .fr (.int (k : Int))] ∧ k ≤ 1000000
def PostBox (cs : List Cell) (r : Cell) (cs' : List Cell) : Prop := cs' = cs ∧ ∃ b, GoodBox b ∧ r = .own b
theorem sem_box {Rc Rd : Rel} (hc : Spec Rc PreCell PostCell) (hd : Spec Rd PreDig PostDig) : Spec (RelOf K [] (t__law_box K Rc Rd) 2 2) PreBox PostBox := by
  rintro _ ⟨ns, k, rfl, hk⟩
  obtain ⟨r1, cs1, h1, rfl, i, rfl⟩ := hc _ ⟨ns, k, rfl⟩
  obtain ⟨r2, cs2, h2, rfl, ds, hn, hl, rfl⟩ := hd _ ⟨i, (k : Int), rfl, by omega, by omega⟩
  refine ⟨_, _, ⟨rfl, _, .inl (ex_retN (en_lst (ag_cons (EvN.ev (en_callF (ds := [.int i, .int (k : Int)]) (ag_cons (ev_callF (ds := [.lst (ns.map .int), .int (k : Int)]) (ag_cons (ev_var rfl) (ag_cons (ev_var rfl) ag_nil)) h1) (ag_cons (ev_var rfl) ag_nil)) h2) OwnIn.refl) (ag_cons ev_int ag_nil)) (by show 2 ≤ 100000; decide))), fin_fr (ds := [.lst (ns.map .int), .int (k : Int)])⟩, rfl, _, ⟨ds, 0, hn, hl, rfl⟩, rfl⟩
/-! ### _law_draw -/
def PreDraw (cs : List Cell) : Prop := ∃ (b : List D) (m : Int), cs = [.own b, .fr (.int m)] ∧ GoodBox b ∧ 0 < m
def PostDraw (cs : List Cell) (r : Cell) (cs' : List Cell) : Prop := ∀ (b : List D) (m : Int), cs = [.own b, .fr (.int m)] → ∃ (v : Int) (b' : List D), cs' = [.own b', .fr (.int m)] ∧ GoodBox b' ∧ 0 ≤ v ∧ v < m ∧ r = .fr (.int v)
theorem sem_draw : Spec (RelOf K [0] (t__law_draw K) 3 2) PreDraw PostDraw := by
  rintro _ ⟨b, m, rfl, ⟨ds, p, hn, hl, rfl⟩, hm⟩
  have key : ∃ (v : Int) (ρ2 : Rho), 0 ≤ v ∧ v < m ∧ ρ2[0]? = some (.own [.lst (ds.map .int), .int ((p + 1 : Nat) : Int)]) ∧ ExZ K [0] (t__law_draw K) [.own [.lst (ds.map .int), .int (p : Int)], .fr (.int m), .no] (.rt ρ2 (.fr (.int v))) := by
    have s1 : ExZ K [0] (tAsg (tOp (rIx K) (tVar 0) (tC (.int 1))) (gName 2)) [.own [.lst (ds.map .int), .int (p : Int)], .fr (.int m), .no] (.nx [.own [.lst (ds.map .int), .int (p : Int)], .fr (.int m), .fr (.int (p : Int))]) :=
      ex_set (i := 2) (ev_ixO (i := 0) (k := 1) rfl ev_int rfl (by rfl)) (by decide)
    have s2 : ExZ K [0] (tAsg (tOp rAddI (tVar 2) (tC (.int 1))) (gSub (tVar 0) (tC (.int 1)) rSetL)) [.own [.lst (ds.map .int), .int (p : Int)], .fr (.int m), .fr (.int (p : Int))] (.nx [.own [.lst (ds.map .int), .int ((p : Int) + 1)], .fr (.int m), .fr (.int (p : Int))]) :=
      ex_setAt (i := 0) (k := 1) (j := 1) (ds := [.lst (ds.map .int), .int (p : Int)]) (ev_add (ev_var rfl) ev_int) ev_int rfl rfl (by rfl)
    have ht := ts_test (ev_lt (K := K) (ρ := [.own [.lst (ds.map .int), .int ((p : Int) + 1)], .fr (.int m), .fr (.int (p : Int))]) (ev_var (i := 2) rfl) (ev_lenL (ev_ixO (i := 0) (k := 0) rfl ev_int rfl (by rfl)).rd))
    by_cases h : p < ds.length
    · refine ⟨ds[p] % m, _, Int.emod_nonneg _ (by omega), Int.emod_lt_of_pos _ hm, rfl, ex_seq s1 (ex_seq s2 (ex_seqR (ex_ifT (ts_is ht ?_) (ex_ret (ev_mod (ev_toInt (ev_ixL (ev_ixO (i := 0) (k := 0) rfl ev_int rfl (by rfl)) (ev_var rfl) (at_nat (j := p) ?_))) (ev_var rfl) hm)))))⟩
      · rw [List.length_map]
        exact decide_eq_true (by omega)
      · rw [List.getElem?_map, List.getElem?_eq_getElem h]
        rfl
    · refine ⟨0, _, Int.le_refl 0, hm, rfl, ex_seq s1 (ex_seq s2 (ex_seq (ex_ifF (ts_is ht ?_) ex_next) (ex_ret ev_int)))⟩
      rw [List.length_map]
      exact decide_eq_false (by omega)
  obtain ⟨v, ρ2, h1, h2, h3, h4⟩ := key
  refine ⟨_, _, ⟨rfl, ρ2, .inl h4, fin_box (ds := [.int m]) (by decide) h3⟩, fun b m' e => ?_⟩
  cases e
  exact ⟨v, _, rfl, ⟨ds, p + 1, hn, hl, rfl⟩, h1, h2, rfl⟩
/-- a draw in a body: i the box's slot -/
theorem ev_draw {R : Rel} (hR : Spec R PreDraw PostDraw) {i : Nat} {ρ ρ1 : Rho} {te : TE} {b0 b : List D} {m : Int} (h0 : ρ[i]? = some (.own b0)) (h : EvZ K te ρ ρ1 (.int m)) (h1 : ρ1[i]? = some (.own b)) (hb : GoodBox b) (hm : 0 < m) :
    ∃ (v : Int) (b' : List D), 0 ≤ v ∧ v < m ∧ GoodBox b' ∧ EvZ K (tCall (SpZ K R) [] E0 (tCons (tVar i) (tCons te tNil))) ρ (ρ1.set i (.own b')) (.int v) := by
  obtain ⟨r, cs', hr, hp⟩ := hR _ ⟨b, m, rfl, hb, hm⟩
  obtain ⟨v, b', rfl, hb', h2, h3, rfl⟩ := hp b m rfl
  exact ⟨v, b', h2, h3, hb', ev_callB (ds := [.int m]) h0 (ag_cons h ag_nil) h1 hr⟩
end
end Z

set_option Elab.async false
set_option linter.all false
set_option maxRecDepth 100000
set_option maxHeartbeats 2000000
/-! LawB: _law_is_integer, _law_same, words, texts; the law k00. -/
namespace Z
open PySem PySem.Spec PyProof.Rows L2
open Evl (Ex Ex.refl Ex.trans Ex.new ex_rd ex_l ex_t sq_of st_of fresh_back sz_of sz_lt)
section
variable {K : PySem.W.Frag}
/-! ### _law_is_integer, _law_same -/
def isI : D → Bool
  | .int _ => true
  | _ => false
def PreInt (cs : List Cell) : Prop := ∃ d, cs = [.fr d] ∧ notIns d = true
def PostInt (cs : List Cell) (r : Cell) (cs' : List Cell) : Prop := cs' = cs ∧ ∀ d, cs = [.fr d] → r = .fr (.bl (isI d))
theorem sem_is_integer : Spec (RelOf K [] (t__law_is_integer K) 1 1) PreInt PostInt := by
  rintro _ ⟨d, rfl, hd⟩
  have key : ExZ K [] (t__law_is_integer K) [.fr d] (.rt [.fr d] (.fr (.bl (isI d)))) := by
    cases d with
    | non => exact ex_ret (ev_is (ev_andV (ev_isi (T := "int") (ev_var rfl) rfl) fun z => by cases z) rfl (d := .bl (false && false)))
    | bl b => exact ex_ret (ev_is (ev_andV (ev_isi (T := "int") (ev_var rfl) rfl) fun _ => ev_notV (ev_isi (T := "bool") (ev_var rfl) rfl)) rfl)
    | int i => exact ex_ret (ev_is (ev_andV (ev_isi (T := "int") (ev_var rfl) rfl) fun _ => ev_notV (ev_isi (T := "bool") (ev_var rfl) rfl)) rfl)
    | str x => exact ex_ret (ev_is (ev_andV (ev_isi (T := "int") (ev_var rfl) rfl) fun z => by cases z) rfl (d := .bl (false && false)))
    | lst l => exact ex_ret (ev_is (ev_andV (ev_isi (T := "int") (ev_var rfl) rfl) fun z => by cases z) rfl (d := .bl (false && false)))
    | tup l => exact ex_ret (ev_is (ev_andV (ev_isi (T := "int") (ev_var rfl) rfl) fun z => by cases z) rfl (d := .bl (false && false)))
    | dK l => exact ex_ret (ev_is (ev_andV (ev_isi (T := "int") (ev_var rfl) rfl) fun z => by cases z) rfl (d := .bl (false && false)))
    | dT l => exact ex_ret (ev_is (ev_andV (ev_isi (T := "int") (ev_var rfl) rfl) fun z => by cases z) rfl (d := .bl (false && false)))
    | ins C l => cases hd
    | rng _ _ => cases hd
    | tupf _ => cases hd
  exact ⟨_, _, ⟨rfl, _, .inl key, fin_fr (ds := [d])⟩, rfl, fun d' e => by cases e; rfl⟩
/-- data of tuples, texts, numbers, truth values, None, nested less than n deep -/
inductive Plain : Nat → D → Prop
  | non {n : Nat} : Plain (n + 1) .non
  | bl {n : Nat} (b : Bool) : Plain (n + 1) (.bl b)
  | int {n : Nat} (i : Int) : Plain (n + 1) (.int i)
  | str {n : Nat} (x : Str) : Plain (n + 1) (.str x)
  | tup {n : Nat} {ds : List D} : (∀ d ∈ ds, Plain n d) → ds.length ≤ 90000 → Plain (n + 1) (.tup ds)
def PreSame (n : Nat) (cs : List Cell) : Prop := ∃ d, cs = [.fr d, .fr d] ∧ Plain n d
def PostSame (cs : List Cell) (r : Cell) (cs' : List Cell) : Prop := cs' = cs ∧ r = .fr (.bl true)
theorem all_true {α : Type} (l : List α) : (l.map fun _ => true).all id = true := by
  induction l with
  | nil => rfl
  | cons a l ih => rw [List.map_cons, List.all_cons, ih]; rfl
theorem sem_same {Ri Rs : Rel} {n : Nat} (hi : Spec Ri PreInt PostInt) (hs : Spec Rs (PreSame n) PostSame) : Spec (RelOf K [] (t__law_same K Ri Rs) 3 2) (PreSame (n + 1)) PostSame := by
  rintro _ ⟨d, rfl, hd⟩
  have key : ∃ ρ2, ExZ K [] (t__law_same K Ri Rs) [.fr d, .fr d, .no] (.rt ρ2 (.fr (.bl true))) := by
    cases hd with
    | non =>
      exact ⟨_, ex_seq (ex_ifF (ts_B (ev_isi (T := "tuple") (ev_var rfl) rfl)) ex_next) (ex_seq (ex_ifF (ts_B (ev_isi (T := "bool") (ev_var rfl) rfl)) ex_next) (ex_seq (ex_ifF (ts_B (ev_isi (T := "int") (ev_var rfl) rfl)) ex_next)
        (ex_seq (ex_ifF (ts_B (ev_isi (T := "str") (ev_var rfl) rfl)) ex_next) (ex_ret (ev_is (ev_andV (ev_isN (ev_var rfl)) fun _ => ev_isN (ev_var rfl)) rfl)))))⟩
    | bl b =>
      exact ⟨_, ex_seq (ex_ifF (ts_B (ev_isi (T := "tuple") (ev_var rfl) rfl)) ex_next) (ex_seqR (ex_ifT (ts_B (ev_isi (T := "bool") (ev_var rfl) rfl)) (ex_ret (ev_is (ev_andV (ev_isi (T := "bool") (ev_var rfl) rfl) fun _ => ev_eqB (ev_var rfl) (ev_var rfl)) (by
        rw [decide_eq_true rfl]; rfl)))))⟩
    | int i =>
      obtain ⟨r, cs', hr, rfl, hv⟩ := hi _ ⟨.int i, rfl, rfl⟩
      obtain rfl := hv _ rfl
      exact ⟨_, ex_seq (ex_ifF (ts_B (ev_isi (T := "tuple") (ev_var rfl) rfl)) ex_next) (ex_seq (ex_ifF (ts_B (ev_isi (T := "bool") (ev_var rfl) rfl)) ex_next) (ex_seqR (ex_ifT (ts_B (ev_isi (T := "int") (ev_var rfl) rfl))
        (ex_ret (ev_is (ev_andV (ev_callF (ds := [.int i]) (ag_cons (ev_var rfl) ag_nil) hr) fun _ => ev_eqI (ev_var rfl) (ev_var rfl)) (by
        rw [decide_eq_true rfl]; rfl))))))⟩
    | str x =>
      exact ⟨_, ex_seq (ex_ifF (ts_B (ev_isi (T := "tuple") (ev_var rfl) rfl)) ex_next) (ex_seq (ex_ifF (ts_B (ev_isi (T := "bool") (ev_var rfl) rfl)) ex_next) (ex_seq (ex_ifF (ts_B (ev_isi (T := "int") (ev_var rfl) rfl)) ex_next)
        (ex_seqR (ex_ifT (ts_B (ev_isi (T := "str") (ev_var rfl) rfl)) (ex_ret (ev_is (ev_andV (ev_isi (T := "str") (ev_var rfl) rfl) fun _ => ev_eqS (ev_var rfl) (ev_var rfl)) (by
        rw [decide_eq_true rfl]; rfl)))))))⟩
    | @tup _ ds hds hl =>
      have hc : CompZ K (gName 2) tYes (e__law_same_1 K Ri Rs) [2] [2] (rangeD 0 ds.length) [.fr (.tup ds), .fr (.tup ds), .no] ((List.range ds.length).map fun _ => D.bl true) [.fr (.tup ds), .fr (.tup ds), .no] := by
        refine comp_mapA (K := K) (ρ := [.fr (.tup ds), .fr (.tup ds), .no]) (j := 2) (fun (i : Nat) => D.int (0 + (i : Int))) (fun _ => D.bl true) rfl (List.range ds.length) fun i hi' => ?_
        have hlt : i < ds.length := List.mem_range.mp hi'
        obtain ⟨r, cs', hr, rfl, rfl⟩ := hs _ ⟨ds[i], rfl, hds _ (List.getElem_mem hlt)⟩
        have ei : (0 : Int) + (i : Int) = (i : Int) := Int.zero_add _
        refine ev_callF (ds := [ds[i], ds[i]]) (ag_cons (ev_ixT (ev_var rfl) (ev_var rfl) (at_of ei (List.getElem?_eq_getElem hlt))) (ag_cons (ev_ixT (ev_var rfl) (ev_var rfl) (at_of ei (List.getElem?_eq_getElem hlt))) ag_nil)) hr
      refine ⟨[.fr (.tup ds), .fr (.tup ds), .no], ex_seqR (ex_ifT (ts_B (ev_isi (T := "tuple") (ev_var rfl) rfl)) (ex_seq (ex_ifF (ts_orF (ts_is (ts_not (b := true) (ts_B (ev_isi (T := "tuple") (ev_var rfl) rfl))) rfl) (ts_is (ts_test (ev_neI (ev_lenT (ev_var (ρ := [.fr (.tup ds), .fr (.tup ds), .no]) (i := 0) rfl).rd) (ev_lenT (ev_var (ρ := [.fr (.tup ds), .fr (.tup ds), .no]) (i := 1) rfl).rd))) ?_)) ex_next)
        (ex_ret (ev_is (ev_all (bs := (List.range ds.length).map fun _ => true) (EvN.rd ?_)) ?_))))⟩
      · rw [decide_eq_true rfl]; rfl
      · have h := en_lc (it_range1 (n := (ds.length : Int)) (ag_cons (ev_lenT (ev_var (ρ := [.fr (.tup ds), .fr (.tup ds), .no]) (i := 1) rfl).rd) ag_nil) ⟨by omega, by omega⟩) (ρ' := [.fr (.tup ds), .fr (.tup ds), .no]) (rs := (List.range ds.length).map fun _ => D.bl true) (A := [2]) (vs := [2]) (tt := tYes) (te := e__law_same_1 K Ri Rs) (g := gName 2)
          (by rw [Int.toNat_natCast]; exact hc) (by decide) (by rw [rangeD_len, Int.toNat_natCast]; omega)
        have e : ((List.range ds.length).map fun _ => true).map D.bl = (List.range ds.length).map fun _ => D.bl true := by rw [List.map_map]; rfl
        rw [e]
        exact h
      · rw [all_true]
  obtain ⟨ρ2, h⟩ := key
  exact ⟨_, _, ⟨rfl, ρ2, .inl h, fin_fr (ds := [d, d])⟩, rfl, rfl⟩
/-! ### words -/
def keptS : List Str := ["sum", "where", "in", "and"]
def letS : Str := "abcdefghijklmnopqrstuvwxyz"
def lettersB (z : Str) : Bool := (z.cps.toList.map fun c => decide (c ∈ letS.cps.toList)).all id
def wordB (z : Str) : Bool := !decide (z ∈ keptS) && (decide ((1 : Int) ≤ (z.length : Int)) && decide ((z.length : Int) ≤ 8)) && lettersB z
def PreWord (cs : List Cell) : Prop := ∃ z : Str, cs = [.fr (.str z)] ∧ z.length ≤ 90000
def PostWord (cs : List Cell) (r : Cell) (cs' : List Cell) : Prop := cs' = cs ∧ ∀ z, cs = [.fr (.str z)] → r = .fr (.bl (wordB z))
/-- all(letter in LETTERS for the signs of slot 0) -/
theorem ev_letters {te : TE} {z : Str} (hz : z.length ≤ 90000) (he : ∀ c : Nat, EvZ K te [.fr (.str z), .fr (.str ⟨#[c]⟩)] [.fr (.str z), .fr (.str ⟨#[c]⟩)] (.bl (decide (c ∈ letS.cps.toList)))) :
    EvZ K (tCB (rAll K) (tCons (tLc (iStr (tVar 0)) (gName 1) tYes te [1]) tNil)) [.fr (.str z), .no] [.fr (.str z), .no] (.bl (lettersB z)) := by
  have hc : CompZ K (gName 1) tYes te [1] [1] (signsD z) [.fr (.str z), .no] (z.cps.toList.map fun c => D.bl (decide (c ∈ letS.cps.toList))) [.fr (.str z), .no] :=
    comp_mapA (K := K) (ρ := [.fr (.str z), .no]) (j := 1) (fun c => D.str ⟨#[c]⟩) (fun c => D.bl (decide (c ∈ letS.cps.toList))) rfl z.cps.toList fun c _ => he c
  refine ev_all (bs := z.cps.toList.map fun c => decide (c ∈ letS.cps.toList)) (EvN.rd ?_)
  have e : (z.cps.toList.map fun c => decide (c ∈ letS.cps.toList)).map D.bl = z.cps.toList.map fun c => D.bl (decide (c ∈ letS.cps.toList)) := by rw [List.map_map]; rfl
  rw [e]
  refine en_lc (it_str (ev_var rfl)) hc (by decide) ?_
  unfold signsD
  rw [List.length_map]
  have : z.cps.toList.length = z.length := by simp [Str.length]
  omega
theorem sem_is_word {cK cL cM : V} (hk : ∀ H, DzR K H cK (.tup (keptS.map .str))) (hl : ∀ H, Dz K H cL (.str letS)) (hm : ∀ H, Dz K H cM (.int 8)) : Spec (RelOf K [] (t_is_word K cK cL cM) 2 1) PreWord PostWord := by
  rintro _ ⟨z, rfl, hz⟩
  have key : ∃ ρ2, ExZ K [] (t_is_word K cK cL cM) [.fr (.str z), .no] (.rt ρ2 (.fr (.bl (wordB z)))) := by
    have ht : TsZ K _ [.fr (.str z), .no] [.fr (.str z), .no] (decide (z ∈ keptS) || !(decide ((1 : Int) ≤ (z.length : Int)) && decide ((z.length : Int) ≤ 8))) :=
      ts_or (ts_test (ev_inT (K := K) (neg := false) (ev_var (i := 0) rfl) (rd_c hk))) fun _ => ts_not (ts_test (ev_chainI (p := fun i j => decide (i ≤ j)) (p' := fun i j => decide (i ≤ j)) ev_int (ev_lenS (ev_var (i := 0) rfl) (by omega)) (ev_c hm)))
    refine ex_when ht (fun h => ⟨[.fr (.str z), .no], ?_⟩) (fun h => ⟨[.fr (.str z), .no], ?_⟩)
    · have e : wordB z = false := by
        unfold wordB
        revert h
        cases decide (z ∈ keptS) <;> cases decide ((1 : Int) ≤ (z.length : Int)) <;> cases decide ((z.length : Int) ≤ 8) <;> simp
      rw [e]
      exact ex_ret ev_bl
    · have e : wordB z = lettersB z := by
        unfold wordB
        revert h
        cases decide (z ∈ keptS) <;> cases decide ((1 : Int) ≤ (z.length : Int)) <;> cases decide ((z.length : Int) ≤ 8) <;> simp
      rw [e]
      exact ex_ret (ev_letters hz fun c => ev_inSg (ev_var rfl) (ev_c hl))
  obtain ⟨ρ2, h⟩ := key
  exact ⟨_, _, ⟨rfl, ρ2, .inl h, fin_fr (ds := [.str z])⟩, rfl, fun z' e => by cases e; rfl⟩
theorem sem_law_is_word : Spec (RelOf K [] (t__law_is_word K) 2 1) PreWord PostWord := by
  rintro _ ⟨z, rfl, hz⟩
  have key : ∃ ρ2, ExZ K [] (t__law_is_word K) [.fr (.str z), .no] (.rt ρ2 (.fr (.bl (wordB z)))) := by
    have ht : TsZ K _ [.fr (.str z), .no] [.fr (.str z), .no] (decide ((z.length : Int) < 1) || (decide ((8 : Int) < (z.length : Int)) || decide (z ∈ keptS))) :=
      ts_or (ts_test (ev_lt (K := K) (ev_lenS (ev_var (i := 0) rfl) (by omega)) ev_int)) fun _ => ts_or (ts_test (ev_gt (ev_lenS (ev_var (i := 0) rfl) (by omega)) ev_int)) fun _ =>
        ts_test (ev_inT (neg := false) (zs := keptS) (ev_var (i := 0) rfl) (ev_tup (ds := keptS.map .str) (ag_cons ev_str (ag_cons ev_str (ag_cons ev_str (ag_cons ev_str ag_nil)))) (by decide)).rd)
    have e1 : decide ((z.length : Int) < 1) = !decide ((1 : Int) ≤ (z.length : Int)) := by
      by_cases h : (1 : Int) ≤ (z.length : Int)
      · rw [decide_eq_true h, decide_eq_false (by omega)]; rfl
      · rw [decide_eq_false h, decide_eq_true (by omega)]; rfl
    have e2 : decide ((8 : Int) < (z.length : Int)) = !decide ((z.length : Int) ≤ 8) := by
      by_cases h : (z.length : Int) ≤ 8
      · rw [decide_eq_true h, decide_eq_false (by omega)]; rfl
      · rw [decide_eq_false h, decide_eq_true (by omega)]; rfl
    refine ex_when ht (fun h => ⟨[.fr (.str z), .no], ?_⟩) (fun h => ⟨[.fr (.str z), .no], ?_⟩)
    · have e : wordB z = false := by
        unfold wordB
        rw [e1, e2] at h
        revert h
        cases decide (z ∈ keptS) <;> cases decide ((1 : Int) ≤ (z.length : Int)) <;> cases decide ((z.length : Int) ≤ 8) <;> simp
      rw [e]
      exact ex_ret ev_bl
    · have e : wordB z = lettersB z := by
        unfold wordB
        rw [e1, e2] at h
        revert h
        cases decide (z ∈ keptS) <;> cases decide ((1 : Int) ≤ (z.length : Int)) <;> cases decide ((z.length : Int) ≤ 8) <;> simp
      rw [e]
      exact ex_ret (ev_letters hz fun c => ev_inSg (ev_var rfl) ev_str)
  obtain ⟨ρ2, h⟩ := key
  exact ⟨_, _, ⟨rfl, ρ2, .inl h, fin_fr (ds := [.str z])⟩, rfl, fun z' e => by cases e; rfl⟩
end
end Z

set_option Elab.async false
set_option linter.all false
set_option maxRecDepth 100000
set_option maxHeartbeats 2000000
/-! LawC: _law_a_text; the law k00. -/
namespace Z
open PySem PySem.Spec PyProof.Rows L2
open Evl (Ex Ex.refl Ex.trans Ex.new ex_rd ex_l ex_t sq_of st_of fresh_back sz_of sz_lt)
section
variable {K : PySem.W.Frag}
theorem atI_has {α : Type} {xs : List α} {i : Int} (h0 : 0 ≤ i) (h1 : i < (xs.length : Int)) : ∃ x, atI xs i = some x ∧ x ∈ xs := by
  have hlt : i.toNat < xs.length := by omega
  refine ⟨xs[i.toNat], ?_, List.getElem_mem hlt⟩
  have q := atI_nat (List.getElem?_eq_getElem hlt)
  rw [Int.toNat_of_nonneg h0] at q
  exact q
theorem len_cat (a b : Str) : (a ++ b).length = a.length + b.length := PySem.Str.length_append a b
theorem len_one (c : Nat) : (⟨#[c]⟩ : Str).length = 1 := rfl
def PreText (cs : List Cell) : Prop := ∃ b, cs = [.own b] ∧ GoodBox b
def PostText (cs : List Cell) (r : Cell) (cs' : List Cell) : Prop := ∃ (z : Str) (b' : List D), z.length ≤ 1000 ∧ GoodBox b' ∧ r = .fr (.str z) ∧ cs' = [.own b']
theorem let_len : letS.cps.toList.length = 26 := by decide +kernel
theorem text_loop {Rd : Rel} (hd : Spec Rd PreDraw PostDraw) : ∀ (n m : Nat) (tx : Str) (b : List D) (kv : Cell), GoodBox b → tx.length ≤ m → m + n ≤ 100 → ∃ (tx' : Str) (b' : List D) (kv' : Cell), GoodBox b' ∧ tx'.length ≤ 100 ∧
    LoopZ K [0] (gName 3) (b__law_a_text_1 K Rd) [3] (rangeD (m : Int) n) [.own b, .fr (.str letS), .fr (.str tx), kv, .no] (.nx [.own b', .fr (.str letS), .fr (.str tx'), kv', .no])
  | 0, m, tx, b, kv, hb, hl, hm => ⟨tx, b, kv, hb, by omega, .nil⟩
  | n + 1, m, tx, b, kv, hb, hl, hm => by
    rw [rangeD_cons]
    obtain ⟨v, b1, h0, h1, hb1, he⟩ := ev_draw (K := K) hd (i := 0) (ρ := [.own b, .fr (.str letS), .fr (.str tx), .fr (.int (m : Int)), .no]) rfl (ev_int (i := 26)) rfl hb (by decide)
    obtain ⟨c, hc, _⟩ := atI_has (xs := letS.cps.toList) h0 (by rw [let_len]; exact h1)
    obtain ⟨tx', b', kv', g1, g2, g3⟩ := text_loop hd n (m + 1) (tx ++ ⟨#[c]⟩) b1 (.fr (.int (m : Int))) hb1 (by rw [len_cat, len_one]; omega) (by omega)
    exact ⟨tx', b', kv', g1, g2, .step tg_name (ex_set (i := 2) (ev_catS (ev_var rfl) (ev_ixS (ev_var rfl) he (by decide) hc) (by rw [len_one]; omega)) (by decide)) g3⟩
theorem signs_len : (("AZ09 /-_*\n" : Str)).cps.toList.length = 10 := by decide +kernel
theorem sem_a_text {Rd : Rel} (hd : Spec Rd PreDraw PostDraw) : Spec (RelOf K [0] (t__law_a_text K Rd) 5 1) PreText PostText := by
  rintro _ ⟨b, rfl, hb⟩
  have key : ∃ (z : Str) (b' : List D) (ρ2 : Rho), z.length ≤ 1000 ∧ GoodBox b' ∧ ρ2[0]? = some (.own b') ∧ ExZ K [0] (t__law_a_text K Rd) [.own b, .no, .no, .no, .no] (.rt ρ2 (.fr (.str z))) := by
    obtain ⟨v, b1, h0, h1, hb1, he⟩ := ev_draw (K := K) hd (i := 0) (ρ := [.own b, .fr (.str letS), .no, .no, .no]) rfl (ev_int (i := 6)) rfl hb (by decide)
    have s1 : ExZ K [0] (tAsg (tC (.str "abcdefghijklmnopqrstuvwxyz")) (gName 1)) [.own b, .no, .no, .no, .no] (.nx [.own b, .fr (.str letS), .no, .no, .no]) := ex_set (i := 1) ev_str (by decide)
    have ht := ts_test (ev_eqI he (ev_int (i := 0)))
    by_cases hv : v = 0
    · obtain ⟨v2, b2, h2, h3, hb2, he2⟩ := ev_draw (K := K) hd (i := 0) (ρ := [.own b1, .fr (.str letS), .no, .no, .no]) rfl (ev_int (i := 6)) rfl hb1 (by decide)
      obtain ⟨d, hd1, hd2⟩ := atI_has (xs := [D.str "sum", .str "where", .str "in", .str "and", .str "ands", .str "su"]) h2 h3
      have hz : ∃ z : Str, d = .str z ∧ z.length ≤ 1000 := by
        simp only [List.mem_cons, List.not_mem_nil, or_false] at hd2
        rcases hd2 with e | e | e | e | e | e <;> exact ⟨_, e, by decide⟩
      obtain ⟨z, rfl, hz⟩ := hz
      refine ⟨z, b2, _, hz, hb2, ?_, ex_seq s1 (ex_seqR (ex_ifT (ts_is ht (decide_eq_true hv)) (ex_ret (ev_ixT (ev_tup (ds := [.str "sum", .str "where", .str "in", .str "and", .str "ands", .str "su"]) (ag_cons ev_str (ag_cons ev_str (ag_cons ev_str (ag_cons ev_str (ag_cons ev_str (ag_cons ev_str ag_nil)))))) (by decide)) he2 hd1))))⟩
      rfl
    · obtain ⟨n, b3, h4, h5, hb3, he3⟩ := ev_draw (K := K) hd (i := 0) (ρ := [.own b1, .fr (.str letS), .fr (.str ""), .no, .no]) rfl (ev_int (i := 10)) rfl hb1 (by decide)
      obtain ⟨tx, b4, kv, hb4, hl4, lp⟩ := text_loop (K := K) hd n.toNat 0 "" b3 .no hb3 (by decide) (by omega)
      have s2 : ExZ K [0] (tAsg (tC (.str "")) (gName 2)) [.own b1, .fr (.str letS), .no, .no, .no] (.nx [.own b1, .fr (.str letS), .fr (.str ""), .no, .no]) := ex_set (i := 2) ev_str (by decide)
      have s3 : ExZ K [0] (tFor (iRng1 (tCons (tCall (SpZ K Rd) [] E0 (tCons (tVar 0) (tCons (tC (.int 10)) tNil))) tNil)) (gName 3) (b__law_a_text_1 K Rd)) [.own b1, .fr (.str letS), .fr (.str ""), .no, .no] (.nx [.own b4, .fr (.str letS), .fr (.str tx), kv, .no]) :=
        ex_for (it_range1 (ag_cons he3 ag_nil) ⟨by omega, by omega⟩) lp (by decide)
      obtain ⟨v5, b5, h6, h7, hb5, he5⟩ := ev_draw (K := K) hd (i := 0) (ρ := [.own b4, .fr (.str letS), .fr (.str tx), kv, .no]) rfl (ev_int (i := 3)) rfl hb4 (by decide)
      have ht5 := ts_test (ev_eqI he5 (ev_int (i := 0)))
      have pre : ∀ {o : Out} {u : TS}, ExZ K [0] u [.own b4, .fr (.str letS), .fr (.str tx), kv, .no] o → ExZ K [0] (tSeq (tAsg (tC (.str "")) (gName 2)) (tSeq (tFor (iRng1 (tCons (tCall (SpZ K Rd) [] E0 (tCons (tVar 0) (tCons (tC (.int 10)) tNil))) tNil)) (gName 3) (b__law_a_text_1 K Rd)) u)) [.own b1, .fr (.str letS), .no, .no, .no] o := fun h => ex_seq s2 (ex_seq s3 h)
      by_cases hw : v5 = 0
      · obtain ⟨v6, b6, h8, h9, hb6, he6⟩ := ev_draw (K := K) hd (i := 0) (ρ := [.own b5, .fr (.str letS), .fr (.str tx), kv, .no]) rfl (ev_add (ev_lenS (ev_var (i := 2) rfl) (by omega)) (ev_int (i := 1))) rfl hb5 (by omega)
        obtain ⟨v7, b7, h10, h11, hb7, he7⟩ := ev_draw (K := K) hd (i := 0) (ρ := [.own b6, .fr (.str letS), .fr (.str tx), kv, .fr (.int v6)]) rfl (ev_int (i := 10)) rfl hb6 (by decide)
        obtain ⟨c, hc, _⟩ := atI_has (xs := (("AZ09 /-_*\n" : Str)).cps.toList) h10 (by rw [signs_len]; exact h11)
        have l1 := cutS_length tx none (some v6)
        have l2 := cutS_length tx (some v6) none
        refine ⟨cutS tx none (some v6) ++ ⟨#[c]⟩ ++ cutS tx (some v6) none, b7, _, ?_, hb7, ?_, ex_seq s1 (ex_seq (ex_ifF (ts_is ht (decide_eq_false hv)) ex_next) (pre (ex_seq (ex_ifT (ts_is ht5 (decide_eq_true hw)) (ex_seq (ex_set (i := 4) he6 (by decide))
          (ex_set (i := 2) (ev_catS (ev_catS (ev_slS (ev_var rfl) poz_none (poz_some (ev_var rfl)) (by omega)) (ev_ixS ev_str he7 (by decide) hc) ?_) (ev_slS (ev_var rfl) (poz_some (ev_var rfl)) poz_none (by omega)) ?_) (by decide)))) (ex_ret (ev_var (i := 2) rfl)))))⟩
        · rw [len_cat, len_cat, len_one]; omega
        · rfl
        · rw [len_one]; omega
        · rw [len_cat, len_one]; omega
      · refine ⟨tx, b5, _, by omega, hb5, ?_, ex_seq s1 (ex_seq (ex_ifF (ts_is ht (decide_eq_false hv)) ex_next) (pre (ex_seq (ex_ifF (ts_is ht5 (decide_eq_false hw)) ex_next) (ex_ret (ev_var (i := 2) rfl)))))⟩
        rfl
  obtain ⟨z, b', ρ2, h1, h2, h3, h4⟩ := key
  exact ⟨_, _, ⟨rfl, ρ2, .inl h4, fin_box (ds := []) (by decide) h3⟩, z, b', h1, h2, rfl, rfl⟩
/-! ### the law -/
section
variable {Rt Rb Rw Rs Ri : Rel}
end
end
end Z

set_option Elab.async false
set_option linter.all false
set_option maxRecDepth 100000
set_option maxHeartbeats 2000000
/-! ZComp2: comprehensions with two for clauses. -/
namespace Z
open PySem PySem.Spec PyProof.Rows L2
open Evl (Ex Ex.refl Ex.trans Ex.new ex_rd ex_l ex_t sq_of st_of fresh_back sz_of sz_lt)
variable {K : PySem.W.Frag} {ρ ρ' ρ1 ρ2 ρ3 ρ4 ρ5 : Rho} {te : TE} {tt tt1 : TT} {g g1 : TG} {wi wi1 : TI} {ds rs : List D} {vs vs1 A A1 : List Nat}
inductive CompZ2 (K : PySem.W.Frag) (g : TG) (tt : TT) (wi1 : TI) (g1 : TG) (tt1 : TT) (te : TE) (vs vs1 A A1 : List Nat) (most : Nat) : List D → Rho → List D → Rho → Prop
  | nil {ρ : Rho} : CompZ2 K g tt wi1 g1 tt1 te vs vs1 A A1 most [] ρ [] ρ
  | step {ρ ρ1 ρ2 ρ3 ρ4 ρ5 : Rho} {d : D} {ds ds1 rs1 rs : List D} : TgZ K g A d ρ ρ1 → TsZ K tt ρ1 ρ2 true → ItZ K wi1 ρ2 ρ3 ds1 → ds1.length ≤ most → CompZ K g1 tt1 te vs1 A1 ds1 (wipeR ρ3 vs1) rs1 ρ4 →
      CompZ2 K g tt wi1 g1 tt1 te vs vs1 A A1 most ds (wipeR ρ4 vs) rs ρ5 → CompZ2 K g tt wi1 g1 tt1 te vs vs1 A A1 most (d :: ds) ρ (rs1 ++ rs) ρ5
/-- what stands between two items (σ the slots, rl to come, rd made, at Dl) -/
structure CW (K : PySem.W.Frag) (Next : Rho → List D → Prop) (M : MS) (G1 H1 : Hp) (Dl : Addr) (σ : L2.St) (rs : List D) (most : Nat) (H : Hp) : Prop where
  ex : ∃ G ρi rd rl vd, Grow (fun a => M a ∨ a = Dl) G1 H1 G H ∧ Sim K (fun a => M a ∧ a ≠ Dl) G H σ ρi ∧ Next ρi rl ∧ rd ++ rl = rs ∧ rd.length ≤ most ∧ G Dl = none ∧ H Dl = some (.lst vd) ∧ Dzs K G vd rd
theorem en_lc2 {most : Nat} (hi : ItZ K wi ρ ρ1 ds) (hc : CompZ2 K g tt wi1 g1 tt1 te vs vs1 A A1 most ds (wipeR ρ1 vs) rs ρ') (hA : ∀ i ∈ A, i ∈ vs) (hA1 : ∀ i ∈ A1, i ∈ vs1) (hv : ∀ i ∈ vs1, i ∈ vs) (hl : ds.length * most ≤ 99999) :
    EvN K (tLc2 wi g tt wi1 g1 tt1 te vs vs1) ρ ρ' rs := fun M G H σ S Q q => hi M G H σ S _ fun J G1 H1 g1' s1 wk D hD => by
  have hD0 := g1'.d D hD
  have s1' : Sim K M G1 H1 (L2.wipe σ vs) (wipeR ρ1 vs) := s1.wipe (wipe_length σ vs) fun i h => wipe_get h
  have gt : ∀ {a : Addr}, H1 a ≠ none → (M a ∨ a = D) → M a := fun {a} e z => by
    rcases z with z | z
    · exact z
    · subst z; exact absurd hD e
  refine ⟨fun i m Hh => i ≤ ds.length ∧ m = ds.length - i ∧ CW K (fun ρi rl => CompZ2 K g tt wi1 g1 tt1 te vs vs1 A A1 most (ds.drop i) ρi rl ρ') M G1 H1 D (L2.wipe σ vs) rs (i * most) Hh,
    ⟨ds.length, Nat.zero_le _, rfl, ⟨G1, wipeR ρ1 vs, [], rs, [], .newO hD, ?_, hc, rfl, Nat.zero_le _, fresh_back s1.sub hD, upd_same, .nil⟩⟩, ?_⟩
  · exact (s1'.newO hD).chMo fun p es i e1 e2 => by
      obtain ⟨p', us, e', m, gp, hp, dz⟩ := s1'.mu e1
      rw [e2] at e'
      cases e'
      exact ⟨m, fun z => by subst z; rw [hD] at hp; cases hp⟩
  rintro i m Hi ⟨hle, rfl, ⟨Gi, ρi, rd, rl, vd, gi, si, ci, er, hrd, gD, hiD, dD⟩⟩
  obtain ⟨w1, w2⟩ := wk Gi Hi gi.g si.sub
  cases hit : ds[i]? with
  | none =>
    have hge : ds.length ≤ i := List.getElem?_eq_none_iff.mp hit
    have ei : i = ds.length := Nat.le_antisymm hle hge
    subst ei
    refine .inl ⟨w2, ?_⟩
    rw [List.drop_eq_nil_of_le hge] at ci
    cases ci
    rw [List.append_nil] at er
    subst er
    exact q D vd Gi Hi (g1'.trans (gi.wk fun a e z => gt e z)) (sim_unwipe (si.chM fun a _ z => z.1)) hD0 gD hiD dD
  | some d =>
    obtain ⟨hlt, ed⟩ := List.getElem?_eq_some_iff.mp hit
    obtain ⟨hgo, hy⟩ := w1 i d hit
    rw [List.drop_eq_getElem_cons hlt, ed] at ci
    refine .inr ⟨hgo, CW K (fun ρi rl => CompZ2 K g tt wi1 g1 tt1 te vs vs1 A A1 most (ds.drop (i + 1)) ρi rl ρ') M G1 H1 D (L2.wipe σ vs) rs ((i + 1) * most), fun H' w => ⟨ds.length - (i + 1), by omega, by omega, rfl, w⟩, fun x H' yl => ?_⟩
    have keepD : ∀ {Ga Ha Gb Hb : Hp}, Grow (fun a => M a ∧ a ≠ D) Ga Ha Gb Hb → Ga D = none → Ha D = some (.lst vd) → Gb D = none ∧ Hb D = some (.lst vd) := fun h g0 h0 => ⟨h.n D (fun z => z.2 rfl) (by rw [h0]; simp) g0, h.k D _ (fun z => z.2 rfl) h0⟩
    have wkM : ∀ {Ga Ha Gb Hb : Hp}, Grow (fun a => M a ∧ a ≠ D) Ga Ha Gb Hb → Grow (fun a => M a ∨ a = D) Ga Ha Gb Hb := fun h => h.wk fun a _ z => .inl z.1
    obtain ⟨G2, g2, s2, dx⟩ := hy x H' yl
    have S2 : Sim K (fun a => M a ∧ a ≠ D) G2 H' (L2.wipe σ vs) ρi := si.after g2 s2
    have hD2 : H' D = some (.lst vd) := g2.k D _ (fun z => z) hiD
    have gD2 : G2 D = none := g2.n D (fun z => z) (by rw [hiD]; simp) gD
    have gi2 : Grow (fun a => M a ∨ a = D) G1 H1 G2 H' := gi.trans (g2.wk fun a _ z => z.elim)
    generalize hlist : d :: ds.drop (i + 1) = dl at ci
    cases ci with
    | nil => cases hlist
    | @step _ ρa ρb ρc ρd _ d0 ds0 ds1 rs1 rl' t1 t2 t3 t3l t4 t5 =>
      cases hlist
      refine t1 _ G2 H' _ x S2 dx _ fun σa la ka Sa => ⟨?_, ?_⟩
      · exact (wipe_eq (σ := L2.wipe σ vs) (vs := vs) la fun j hj => ka j fun z => hj (hA j z)).trans (wipe_eq (wipe_length σ vs) fun j hj => wipe_get hj)
      refine t2 _ G2 H' _ Sa _ fun G3 H3 g3 s3 => ?_
      rw [if_pos rfl]
      refine t3 _ G3 H3 _ s3 _ fun J1 G4 H4 g4 s4 wk1 => ?_
      obtain ⟨gD4, hD4⟩ := keepD (g3.trans g4) gD2 hD2
      have gi4 := gi2.trans (wkM (g3.trans g4))
      refine ⟨fun j k Hj => j ≤ ds1.length ∧ k = ds1.length - j ∧ CW K (fun ρj rj => CompZ K g1 tt1 te vs1 A1 (ds1.drop j) ρj rj ρd) M G4 H4 D (L2.wipe σa vs1) (rd ++ rs1) (i * most + j) Hj,
        ⟨ds1.length, Nat.zero_le _, rfl, ⟨G4, wipeR ρc vs1, rd, rs1, vd, .refl, s4.wipe (wipe_length σa vs1) fun j hj => wipe_get hj, t4, rfl, hrd, gD4, hD4, dD.mono ((g2.g.trans g3.g).trans g4.g)⟩⟩, ?_⟩
      rintro j k Hj ⟨jle, rfl, ⟨Gj, ρj, rdj, rlj, vdj, gj, sj, cj, erj, hrdj, gDj, hDj, dDj⟩⟩
      obtain ⟨u1, u2⟩ := wk1 Gj Hj gj.g sj.sub
      cases jit : ds1[j]? with
      | none =>
        have jge : ds1.length ≤ j := List.getElem?_eq_none_iff.mp jit
        have ej : j = ds1.length := Nat.le_antisymm jle jge
        subst ej
        rw [List.drop_eq_nil_of_le jge] at cj
        cases cj
        rw [List.append_nil] at erj
        subst erj
        refine .inl ⟨u2, ⟨Gj, wipeR ρd vs, rd ++ rs1, rl', vdj, gi4.trans gj, ?_, t5, by rw [List.append_assoc]; exact er, ?_, gDj, hDj, dDj⟩⟩
        · refine sj.wipe (by rw [wipe_length σa vs1, la]) fun n hn => ?_
          rw [wipe_get hn, wipe_get fun z => hn (hv n z), ka n fun z => hn (hA n z), wipe_get hn]
        · have h1 : (i + 1) * most = i * most + most := by rw [Nat.add_mul, Nat.one_mul]
          omega
      | some d1 =>
        obtain ⟨jlt, ed1⟩ := List.getElem?_eq_some_iff.mp jit
        obtain ⟨jgo, jy⟩ := u1 j d1 jit
        rw [List.drop_eq_getElem_cons jlt, ed1] at cj
        refine .inr ⟨jgo, CW K (fun ρj rj => CompZ K g1 tt1 te vs1 A1 (ds1.drop (j + 1)) ρj rj ρd) M G4 H4 D (L2.wipe σa vs1) (rd ++ rs1) (i * most + (j + 1)), fun H' w => ⟨ds1.length - (j + 1), by omega, by omega, rfl, w⟩, fun x1 H'' yl1 => ?_⟩
        obtain ⟨G5, g5, s5, dx1⟩ := jy x1 H'' yl1
        have S5 : Sim K (fun a => M a ∧ a ≠ D) G5 H'' (L2.wipe σa vs1) ρj := sj.after g5 s5
        have hD5 : H'' D = some (.lst vdj) := g5.k D _ (fun z => z) hDj
        have gD5 : G5 D = none := g5.n D (fun z => z) (by rw [hDj]; simp) gDj
        have gj5 : Grow (fun a => M a ∨ a = D) G4 H4 G5 H'' := gj.trans (g5.wk fun a _ z => z.elim)
        cases cj with
        | yes t6 t7 t8 t9 =>
          rename_i ρe ρf ρg r rj'
          refine t6 _ G5 H'' _ x1 S5 dx1 _ fun σb lb kb Sb => ⟨?_, ?_⟩
          · exact (wipe_eq (σ := L2.wipe σa vs1) (vs := vs1) lb fun n hn => kb n fun z => hn (hA1 n z)).trans (wipe_eq (wipe_length σa vs1) fun n hn => wipe_get hn)
          refine t7 _ G5 H'' _ Sb _ fun G6 H6 g6 s6 => ?_
          rw [if_pos rfl]
          refine t8 _ G6 H6 _ s6 _ fun v G7 H7 g7 s7 dv => ?_
          have g67 := g6.trans g7
          have hD7 : H7 D = some (.lst vdj) := g67.k D _ (fun z => z.2 rfl) hD5
          have gD7 : G7 D = none := g67.n D (fun z => z.2 rfl) (by rw [hD5]; simp) gD5
          have dd : Dzs K G7 (vdj ++ [v]) (rdj ++ [r]) := (dDj.mono (g5.g.trans g67.g)).snoc dv
          have s8 : Sim K (fun a => M a ∧ a ≠ D) G7 (upd H7 D (.lst (vdj ++ [v]))) σb ρg := s7.other gD7 (s7.nin fun z => z.2 rfl)
          have ga := gj5.trans (wkM g67)
          have few : vdj.length < 100000 := by
            rw [dDj.len]
            have h1 : (i + 1) * most ≤ ds.length * most := Nat.mul_le_mul_right most hlt
            have h2 : (i + 1) * most = i * most + most := by rw [Nat.add_mul, Nat.one_mul]
            omega
          refine ⟨vdj, hD7, sz_lt few, ⟨G7, wipeR ρg vs1, rdj ++ [r], rj', vdj ++ [v], ?_, ?_, t9, by rw [List.append_assoc]; exact erj, by rw [List.length_append]; show rdj.length + 1 ≤ _; omega, gD7, upd_same, dd⟩⟩
          · refine ⟨ga.g, fun a o m e => ?_, ga.n, fun a e => ga.d a (upd_none e)⟩
            rw [upd_ne fun z => m (.inr z)]
            exact ga.k a o m e
          · exact s8.wipe (by rw [lb, wipe_length]) fun n hn => by rw [kb n fun z => hn (hA1 n z)]
        | no t6 t7 t9 =>
          rename_i ρe ρf
          refine t6 _ G5 H'' _ x1 S5 dx1 _ fun σb lb kb Sb => ⟨?_, ?_⟩
          · exact (wipe_eq (σ := L2.wipe σa vs1) (vs := vs1) lb fun n hn => kb n fun z => hn (hA1 n z)).trans (wipe_eq (wipe_length σa vs1) fun n hn => wipe_get hn)
          refine t7 _ G5 H'' _ Sb _ fun G6 H6 g6 s6 => ?_
          rw [if_neg Bool.false_ne_true]
          refine ⟨G6, wipeR ρf vs1, rdj, rlj, vdj, gj5.trans (wkM g6), ?_, t9, erj, Nat.le_succ_of_le hrdj, g6.n D (fun z => z.2 rfl) (by rw [hD5]; simp) gD5, g6.k D _ (fun z => z.2 rfl) hD5, dDj.mono (g5.g.trans g6.g)⟩
          exact s6.wipe (by rw [lb, wipe_length]) fun n hn => by rw [kb n fun z => hn (hA1 n z)]
end Z

set_option Elab.async false
set_option linter.all false
set_option maxRecDepth 100000
set_option maxHeartbeats 2000000
/-! ZEnum: for i, x in enumerate(t), t a tuple. -/
namespace Z
open PySem PySem.Spec PyProof.Rows L2
open Sem (wp)
/-- what enumerate.__new__ makes of one thing whose iterator is the new object o -/
def EnumTwo (s : Shared) (o : Obj) : Shared :=
  { s with heap := (s.heap.push o).push { cls := .type "enumerate", data := .fields #[.none, .bool false, .ref s.heap.objs.size, rawInt 0, .none, .none] } }
set_option maxHeartbeats 4000000 in
theorem enum1_meets {v : Value} {o : Obj} {P : Heap → Prop} (B : Begins v o P) :
    Meets (Builtin.«enumerate.__new__» ⟨[.type "enumerate", v], []⟩) (fun _ R s => P s.heap ∧ R (.ok (.ret (.ref (s.heap.push o).objs.size))) (EnumTwo s o)) := .of_wp fun prog w A R s hh => by
  obtain ⟨hp, gg, dd, kk, oo⟩ := s
  obtain ⟨hP, hR⟩ := hh
  have sub := sub_enumerate
  have it1 : ∀ {A' : Around} {E : Value → Shared → Prop} {Q : Value → Shared → Prop}, Q (.ref hp.objs.size) ⟨hp.push o, gg, dd, kk, oo⟩ → wpAny (model prog w) A' (pyIter v) Q E ⟨hp, gg, dd, kk, oo⟩ := fun q =>
    B.iter prog w _ _ ⟨hp, gg, dd, kk, oo⟩ _ hP q
  wp_walk using it1
  refine wpAny_stack_any fun st => wpAny_pure ?_
  split
  · rename_i c _ _ _ _ _
    cases (c == Value.type "enumerate") <;> (wp_walk using it1; exact ⟨_, rfl, hR⟩)
  · wp_walk using it1
    exact ⟨_, rfl, hR⟩
theorem enum1_call {prog : Program} {w : World} {A : Around} {E : Value → Shared → Prop} {s : Shared} {v : Value} {o : Obj} {P : Heap → Prop} {Q : Value → Shared → Prop} (B : Begins v o P) (hP : P s.heap)
    (q : ∀ h', IsEnum h' (s.heap.objs.size + 1) s.heap.objs.size 0 .none → h'.get? s.heap.objs.size = some o → (∀ b u, s.heap.get? b = some u → h'.get? b = some u) → Q (.ref (s.heap.objs.size + 1)) { s with heap := h' }) :
    wpAny (model prog w) A (call (.type "enumerate") [v]) Q E s := by
  refine callType_new F.called_enumerate (by decide) (F.typeCall_enumerate_1 _) (F.newCall_enumerate_1 _) (fun obj => F.args_object_init_2 obj _) F.entry_enumerate_new (enum1_meets B) ⟨hP, ?_⟩
  have sz : (s.heap.push o).objs.size = s.heap.objs.size + 1 := Heap.size_push ..
  have at1 : IsEnum (EnumTwo s o).heap (s.heap.objs.size + 1) s.heap.objs.size 0 .none := by
    have z := Heap.get?_push_size (s.heap.push o) (o := { cls := .type "enumerate", data := .fields #[.none, .bool false, .ref s.heap.objs.size, rawInt 0, .none, .none] }) rfl
    rw [sz] at z
    exact z
  show _ ∧ _
  rw [sz]
  exact ⟨⟨_, at1, rfl⟩, q _ at1 (Heap.get?_push_of_some _ (Heap.get?_push_size _ B.free)) fun b u e => Heap.get?_push_of_some _ (Heap.get?_push_of_some _ e)⟩
/-- the tuple at a as it stands at each turn, each item in a new pair with its number -/
def IteT (K : PySem.W.Frag) (a : Addr) : It :=
  ⟨fun i H => ∃ (xs : List V) (x : V), SqT K H a xs ∧ xs[i]? = some x, fun i H v H' => ∃ T x, v = .ref T ∧ H T = none ∧ H' = upd H T (.tup [.int (i : Nat), x]) ∧ ∀ xs, SqT K H a xs → xs[i]? = some x, fun i H => ∃ xs : List V, SqT K H a xs ∧ xs.length = i⟩
theorem two_mem {b e it : Addr} (hb : b ∈ [e, it]) : b = e ∨ b = it := by simpa using hb
theorem turn_enumT {P : Program} {w : World} {K : PySem.W.Frag} {elts : List Expr} {kk : Nat} {tpos : Pos} (a e it : Addr) (ae : a ≠ e) (ai : a ≠ it) (ne : e ≠ it) :
    Turn P w K (.Tuple elts kk tpos) (IteT K a) [e, it] e (fun i h => (∃ old, IsEnum h e it ((i : Nat) : Int) old) ∧ h.IsTupleIter it a i) where
  mem := List.mem_cons_self
  obj := fun i h st b hb => by
    obtain ⟨⟨old, he⟩, o, ho, hc, hd⟩ := st
    rcases two_mem hb with z | z
    · subst z; exact ⟨_, he, fun v q => nomatch q⟩
    · subst z; exact ⟨o, ho, fun v q => by rw [hd] at q; cases q⟩
  keep := fun i h h' st k => by
    obtain ⟨⟨old, he⟩, hi⟩ := st
    exact ⟨⟨old, k e List.mem_cons_self _ he⟩, hi.at fun o q => k it (List.mem_cons_of_mem _ List.mem_cons_self) o q⟩
  item := by
    intro X hP hw hK hc i pins s σ H E I hf st hg
    subst hP hw hK
    obtain ⟨⟨old, he⟩, hit⟩ := st
    obtain ⟨xs, x, hq, hx⟩ := hg
    obtain ⟨its, rv, p, hz⟩ := I.tuple hq
    obtain ⟨u, hu, ru⟩ := rv.get hx
    have el : e < s.heap.objs.size := Heap.lt_size he
    have il : it < s.heap.objs.size := by obtain ⟨_, q, _⟩ := hit; exact Heap.lt_size q
    have hi : i < its.toArray.size := by
      have z := (List.getElem?_eq_some_iff.mp hu).1
      simpa using z
    have hh : X.A.in1.handled = none := I.ok.hd hc
    have np : e ∉ [it, a] := fun z => by
      rcases two_mem z with z | z
      · exact ne z
      · exact ae z.symm
    refine wpAny_pyNext_enum_itemD (Draws.tuple hh it a ai its.toArray) he ⟨hit, p⟩ hi ne np fun y h' tk hy ho st' hT hsz hk => ?_
    have ey : y = u := by
      have z : its.toArray[i]? = some u := by simpa using hu
      rw [z] at hy
      exact (Option.some.inj hy).symm
    subst ey
    refine ⟨_, rfl, wpAny_letOwnedTupleGo_enum (s := { s with heap := h', toks := tk + 1 }) ho fun h2 he2 sb => ?_⟩
    have hT2 : h2.get? s.heap.objs.size = some { cls := .type "tuple", data := .seq #[.int i tk, y] } := (sb.2 _ (Nat.ne_of_gt el)).trans hT
    have nw : ObjOk X.prog X.w (upd H s.heap.objs.size (.tup [.int (i : Nat), x])) h2 s.heap.objs.size (.tup [.int (i : Nat), x]) :=
      ⟨by show 2 ≤ sizeLine; decide, [.int i tk, y], .cons ⟨_, rfl⟩ (.cons ru .nil), ⟨_, hT2, rfl, _, rfl⟩⟩
    have I1 : Inv X pins σ (upd H s.heap.objs.size (.tup [.int (i : Nat), x])) { s with heap := h2, toks := tk + 1 } :=
      I.turnedNew (t' := tk + 1) (ch := [e, it]) (fun b ob hb q => by
        have n1 : b ≠ e := fun z => hb (by rw [z]; exact List.mem_cons_self)
        have n2 : b ≠ it := fun z => hb (by rw [z]; exact List.mem_cons_of_mem _ List.mem_cons_self)
        exact (sb.2 b n1).trans (hk b ob n1 n2 q)) hf (Nat.le_refl _) nw
    refine ⟨.ref s.heap.objs.size, _, I1, rfl, ⟨_, x, rfl, I.hok.fresh (Nat.le_refl _), rfl, fun ys hys => by rw [I.tuple_inj hys hq]; exact hx⟩, ⟨⟨y, ?_⟩, st'.1.at fun o q => (sb.2 it (Ne.symm ne)).trans q⟩, fun b hb => ?_⟩
    · have e1 : ((i + 1 : Nat) : Int) = (i : Int) + 1 := by omega
      rw [e1]; exact he2
    · have lt : b < s.heap.objs.size := by
        rcases two_mem hb with z | z
        · rw [z]; exact el
        · rw [z]; exact il
      rw [upd_ne (Nat.ne_of_lt lt)]
      exact (hf b hb).1
  done := by
    intro X hP hw hK hc i pins s σ H E I hf st hg
    subst hP hw hK
    obtain ⟨⟨old, he⟩, hit⟩ := st
    obtain ⟨xs, hq, hx⟩ := hg
    obtain ⟨its, rv, p, hz⟩ := I.tuple hq
    obtain ⟨f0, f1, f2, f3, f4, f5⟩ := hf it (List.mem_cons_of_mem _ List.mem_cons_self)
    have hl := rv.length
    have hh : X.A.in1.handled = none := I.ok.hd hc
    have st2 : s.heap.IsTupleIter it a its.toArray.size ∧ s.heap.IsTuple a its.toArray := by
      have z : its.toArray.size = i := by simp; omega
      rw [z]
      exact ⟨hit, p⟩
    exact wpAny_pyNext_enum_endD (Draws.tuple hh it a ai its.toArray) he st2 fun h' eb => ⟨rfl, I.turned (t' := s.toks) (fun b o hb q => eb b o hb q) f0 f1 f3 f4 f5⟩
  self := fun A i s Q E st h => by
    obtain ⟨⟨_, he⟩, _⟩ := st
    exact wpAny_pyIter_enum he h
def iEnumT (K : PySem.W.Frag) (ta : TA) : TI := fun σ H R => ta σ H fun vs H1 => ∃ a xs, vs = [.ref a] ∧ SqT K H1 a xs ∧ R (IteT K a) H1
theorem pi_enumT {X : Cx} {e : Expr} {ta : TA} {p pos tpos : Pos} {elts : List Expr} {kk : Nat} (hg : Gl X "enumerate") (hm : X.mg "enumerate" = none) (ha : PA X [e] ta) (hs : starEach [e] X.env = [(false, eval e X.env)] := by rfl) :
    PI X (.Tuple elts kk tpos) (.Call (.Name "enumerate" p) [e] [] pos) (iEnumT X.K ta) := ⟨fun pins s σ H R I h => by
  refine Call_ (ld_blt I hg hm boot_enumerate (PyProof.Rows.callWith_type1 (thn (ha.run pos pins s σ H _ I h) fun us s1 hh => ?_) hs rfl))
  obtain ⟨vs, H1, I1, r1, a, xs, ex, hq, q⟩ := hh
  subst ex
  cases r1 with
  | cons r rr =>
    cases rr
    cases r
    obtain ⟨its, rv, tp, hz⟩ := I1.tuple hq
    have la : a < s1.heap.objs.size := by
      obtain ⟨_, z, _⟩ := tp
      exact Heap.lt_size z
    refine enum1_call (begins_tuple a its.toArray) tp fun h' he hit hk => wpAny_pyIter_enum he ?_
    refine ⟨s1.heap.objs.size + 1, [s1.heap.objs.size + 1, s1.heap.objs.size], _, _, H1, rfl, I1.kept (t' := s1.toks) hk, turn_enumT a (s1.heap.objs.size + 1) s1.heap.objs.size (Nat.ne_of_lt (Nat.lt_succ_of_lt la)) (Nat.ne_of_lt la) (Nat.succ_ne_self _), ⟨⟨.none, he⟩, ⟨_, hit, rfl, rfl⟩⟩, fun b hb => ?_, q⟩
    have lb : s1.heap.objs.size ≤ b := by
      rcases two_mem hb with z | z
      · rw [z]; exact Nat.le_succ _
      · rw [z]; exact Nat.le_refl _
    exact I1.fpOk lb (I1.hok.fresh lb)⟩
end Z

set_option Elab.async false
set_option linter.all false
set_option maxRecDepth 100000
set_option maxHeartbeats 2000000
/-! ZTupD: tuple(d), d a dict whose keys are texts or ints. -/
namespace Z
open PySem PySem.Spec PyProof.Rows L2
section
variable {prog : Program} {w : World} {A : Around} {E : Value → Shared → Prop} {s : Shared} {r d : Addr} {n : Nat} {P : Nat → Value → Prop} {OK : Heap → Prop}
theorem tupleNew_of {Q : Value → Shared → Prop} (src : PySem.W.KdlSrc prog w "dict" r d n P OK) (hh : A.handled = none) (hok : OK s.heap) (hn : n ≤ sizeLine)
    (q : ∀ (h' : Heap) (tk : Nat) (acc : Array Value), (∀ b o, s.heap.get? b = some o → h'.get? b = some o) → ItemsOf P acc n → Q (.ref h'.objs.size) { s with heap := h'.push { cls := .type "tuple", data := .seq acc }, toks := tk }) :
    codeAny (model prog w) A (.call (.builtin "tuple.__new__") ⟨[.type "tuple", .ref r], []⟩) (wants Q E) s := by
  have ty : s.TypeIs (.ref r) "dict" := src.type _ hok
  have sub := sub_tuple_self
  have ini := init_tuple_lookup
  have here := madeHere_tuple
  have h1 : A.in1.handled = none := hh
  refine codeAny_of_tree ?_
  show wpAny _ A.in1 (do checkBuiltinCall "tuple.__new__" ⟨[.type "tuple", .ref r], []⟩; again (.builtin "tuple.__new__" ⟨[.type "tuple", .ref r], []⟩)) _ _ s
  refine wpAny_bind (wpAny_of_eq (F.newCall_tuple_1 _) (wpAny_pure ⟨plainId_quiet F.plain_tuple_new _, codeAny_builtin F.entry_tuple_new ?_⟩))
  rw [Around.under_plainId F.plain_tuple_new _]
  wp_walk using wpAny_typeOf ty, PySem.W.kdu_collect (A := A.in1) src h1 hok hn
  intro h' tk acc hk items
  show wpAny _ _ (Builtin.Tuple.tupleExact acc.toList.toArray >>= fun v => ret v) _ _ _
  unfold Builtin.Tuple.tupleExact
  have el : acc.toList.toArray = acc := by simp
  rw [el]
  exact wpAny_bind (wpAny_newObj_type (wpAny_pure (q h' tk acc hk items)) (by show acc.size ≤ sizeLine; rw [items.1]; exact hn))
theorem tupleCall_of {Q : Value → Shared → Prop} (src : PySem.W.KdlSrc prog w "dict" r d n P OK) (hh : A.handled = none) (hok : OK s.heap) (hn : n ≤ sizeLine)
    (q : ∀ (h' : Heap) (tk : Nat) (acc : Array Value), (∀ b o, s.heap.get? b = some o → h'.get? b = some o) → ItemsOf P acc n → Q (.ref h'.objs.size) { s with heap := h'.push { cls := .type "tuple", data := .seq acc }, toks := tk }) :
    wpAny (model prog w) A (call (.type "tuple") [.ref r]) Q E s := by
  refine callType_codes (Q₁ := fun obj s₁ => s₁.TypeIs obj "tuple" ∧ Q obj s₁) F.called_tuple (F.typeCall_tuple_1 _) F.entry_object_init (tupleNew_of (A := A.in1) src hh hok hn fun h' tk acc hk items => ⟨⟨_, Heap.get?_push_size _ rfl, rfl⟩, q h' tk acc hk items⟩) fun obj s₁ z => ?_
  exact ⟨z.1, F.args_object_init_2 obj _, object_init_meets F.called_tuple.init.lookup F.called_tuple.made (by decide) prog w A.in1 _ s₁ ⟨z.1, rfl, z.2⟩⟩
end
def rTupD : List V → Hp → VK → Prop := fun xs H Q => ∃ p kvs, xs = [.ref p] ∧ H p = some (.dK kvs) ∧ ∀ q, H q = none → Q (.ref q) (upd H q (.tup (kvs.map fun kv => kV kv.1)))
theorem call_tuple_dK {X : Cx} (hc : X.calm = true) : CallR X (.type "tuple") rTupD := by
  intro pins s σ H xs us Q I r h
  obtain ⟨p, kvs, rfl, hk, q⟩ := h
  obtain ⟨u, rfl, rx⟩ := vals1 r
  obtain rfl : u = Value.ref p := rx
  obtain ⟨z, lo, vs, rk, hd⟩ := (show ObjOk X.prog X.w H s.heap p (.dK kvs) from I.hok p _ hk)
  obtain ⟨ep, hat⟩ := hd.dictAt
  have hl : kvs.length = vs.length := Paired.length rk
  refine tupleCall_of (PySem.W.kdl_dict (knd := mixKind X.prog X.w) (kvs := vs) (ep := ep) lo) (I.ok.hd hc) hat (by rw [← hl]; exact z) fun h' tk acc hkeep items => ?_
  have new : s.heap.get? h'.objs.size = none := by
    cases e : s.heap.get? h'.objs.size with
    | none => rfl
    | some o => exact absurd (Heap.lt_size (hkeep _ _ e)) (Nat.lt_irrefl _)
  have newH : H h'.objs.size = none := I.hok.gone new
  have ob : ObjOk X.prog X.w (upd H h'.objs.size (.tup (kvs.map fun kv => kV kv.1))) (h'.push { cls := .type "tuple", data := .seq acc }) h'.objs.size (.tup (kvs.map fun kv => kV kv.1)) := by
    refine ⟨by rw [List.length_map]; exact z, acc.toList, ?_, ⟨_, Heap.get?_push_size _ rfl, rfl, _, by rw [Array.toArray_toList]⟩⟩
    have el : acc.toList.length = acc.size := by simp
    refine vals_of_at (by rw [List.length_map, el, items.1, hl]) fun j x w h1 h2 => ?_
    obtain ⟨k, y, hky, hi⟩ := items.2 j w (by rw [← Array.getElem?_toList]; exact h2)
    have e1 : (kvs.map (·.1))[j]? = some k := by
      rw [KV.keys rk, List.getElem?_map, hky]
      rfl
    rw [show (kvs.map fun kv => kV kv.1) = (kvs.map (·.1)).map kV by rw [List.map_map]; rfl, List.getElem?_map, e1] at h1
    cases h1
    exact keyIs_rel hi
  exact ⟨.ref h'.objs.size, _, I.laidN (fun b o e => Heap.get?_push_of_some _ (hkeep b o e)) new newH ob, rfl, q _ newH⟩
end Z

set_option Elab.async false
set_option linter.all false
set_option maxRecDepth 100000
set_option maxHeartbeats 2000000
/-! ZSeq: enumerate, zip, a star in a display, slices, conversions, join and split, over cells. -/
namespace Z
open PySem PySem.Spec PyProof.Rows L2
open Evl (Ex Ex.refl Ex.trans Ex.new ex_rd ex_l ex_t sq_of st_of fresh_back sz_of sz_lt)
variable {K : PySem.W.Frag} {ρ ρ' ρ1 ρ2 ρ3 : Rho} {ta tb te : TE} {tx : TA} {d e x y : D} {ds es xs ys : List D}
/-! ### enumerate, zip -/
def enumD : Nat → List D → List D
  | _, [] => []
  | k, d :: ds => .tup [.int (k : Int), d] :: enumD (k + 1) ds
theorem enumD_len : ∀ (k : Nat) (ds : List D), (enumD k ds).length = ds.length
  | _, [] => rfl
  | k, d :: ds => congrArg (· + 1) (enumD_len (k + 1) ds)
theorem enumD_get : ∀ {k i : Nat} {ds : List D} {e : D}, (enumD k ds)[i]? = some e → ∃ d, ds[i]? = some d ∧ e = .tup [.int ((k + i : Nat) : Int), d]
  | k, 0, d :: ds, e, h => by
    cases h
    exact ⟨d, rfl, by rw [Nat.add_zero]⟩
  | k, i + 1, d :: ds, e, h => by
    obtain ⟨d', h1, h2⟩ := enumD_get (k := k + 1) (i := i) (ds := ds) (by simpa [enumD] using h)
    refine ⟨d', by simpa using h1, ?_⟩
    rw [h2, show k + 1 + i = k + (i + 1) by omega]
theorem pair_new {G1 G H : Hp} {T : Addr} {u v : V} {d1 d2 : D} (s : Ex G H) (hT : H T = none) (h1 : Dz K G u d1) (h2 : Dz K G v d2) :
    ∃ G', Grow (fun _ => False) G H G' (upd H T (.tup [u, v])) ∧ Ex G' (upd H T (.tup [u, v])) ∧ Dz K G' (.ref T) (.tup [d1, d2]) := by
  have eg : Ex G (upd G T (.tup [u, v])) := Ex.new (fresh_back s hT)
  refine ⟨upd G T (.tup [u, v]), .new hT s, fun a o e => ?_, .tup upd_same (.cons (h1.mono eg) (.cons (h2.mono eg) .nil))⟩
  by_cases q : a = T
  · subst q; rw [upd_same] at e ⊢; exact e
  · rw [upd_ne q] at e ⊢; exact s a o e
theorem walks_enumT {G : Hp} {a : Addr} {vs : List V} (h : SqT K G a vs) (hd : Dzs K G vs ds) : Walks K G (IteT K a) (enumD 0 ds) := fun G1 H e s => by
  have hH := ex_t (e.trans s) h
  refine ⟨fun i p hi => ?_, ⟨vs, hH, by rw [enumD_len, hd.len]⟩⟩
  obtain ⟨d, hd1, rfl⟩ := enumD_get hi
  obtain ⟨v, ev, dv⟩ := hd.get hd1
  refine ⟨⟨vs, v, hH, ev⟩, fun x H' hy => ?_⟩
  obtain ⟨T, w, rfl, hT, rfl, e2⟩ := hy
  have z := e2 vs hH
  rw [ev] at z
  cases z
  rw [Nat.zero_add]
  exact pair_new (G1 := G1) s hT (.int _) (dv.mono e)
theorem walks_enumL {G : Hp} {a : Addr} {vs : List V} (h : SqL K G a vs) (hd : Dzs K G vs ds) : Walks K G (Ite K a) (enumD 0 ds) := fun G1 H e s => by
  have hH := ex_l (e.trans s) h
  refine ⟨fun i p hi => ?_, ⟨vs, hH, by rw [enumD_len, hd.len]; exact Nat.le_refl _⟩⟩
  obtain ⟨d, hd1, rfl⟩ := enumD_get hi
  obtain ⟨v, ev, dv⟩ := hd.get hd1
  refine ⟨⟨vs, v, hH, ev⟩, fun x H' hy => ?_⟩
  obtain ⟨T, w, rfl, hT, rfl, e2⟩ := hy
  have z := e2 vs hH
  rw [ev] at z
  cases z
  rw [Nat.zero_add]
  exact pair_new (G1 := G1) s hT (.int _) (dv.mono e)
theorem it_enumT (h : AgZ K tx ρ ρ' [.tup ds]) : ItZ K (iEnumT K tx) ρ ρ' (enumD 0 ds) := fun M G H σ S R q => h M G H σ S _ fun vs G1 H1 g1 s1 dv => by
  cases dv with
  | cons h1 h2 =>
    cases h2
    obtain ⟨a, us, rfl, hs, hz⟩ := h1.tup_inv
    exact ⟨a, us, rfl, ex_t s1.sub hs, q _ G1 H1 g1 s1 (walks_enumT hs hz)⟩
theorem it_enumL (h : AgZ K tx ρ ρ' [.lst ds]) : ItZ K (iEnum K tx) ρ ρ' (enumD 0 ds) := fun M G H σ S R q => h M G H σ S _ fun vs G1 H1 g1 s1 dv => by
  cases dv with
  | cons h1 h2 =>
    cases h2
    obtain ⟨a, us, rfl, hs, hz⟩ := h1.lst_inv
    exact ⟨a, us, rfl, ex_l s1.sub hs, q _ G1 H1 g1 s1 (walks_enumL hs hz)⟩
def zipD : List D → List D → List D
  | d :: ds, e :: es => .tup [d, e] :: zipD ds es
  | _, _ => []
theorem zipD_get : ∀ {i : Nat} {ds es : List D} {p : D}, (zipD ds es)[i]? = some p → ∃ d e, ds[i]? = some d ∧ es[i]? = some e ∧ p = .tup [d, e]
  | 0, d :: ds, e :: es, p, h => by
    cases h
    exact ⟨d, e, rfl, rfl, rfl⟩
  | i + 1, d :: ds, e :: es, p, h => by
    obtain ⟨d', e', h1, h2, h3⟩ := zipD_get (i := i) (ds := ds) (es := es) (by simpa [zipD] using h)
    exact ⟨d', e', by simpa using h1, by simpa using h2, h3⟩
  | i, [], es, p, h => by simp [zipD] at h
  | i, d :: ds, [], p, h => by simp [zipD] at h
theorem zipD_len : ∀ (ds es : List D), (zipD ds es).length = min ds.length es.length
  | [], es => by simp [zipD]
  | d :: ds, [] => by simp [zipD]
  | d :: ds, e :: es => by
    show (zipD ds es).length + 1 = min (ds.length + 1) (es.length + 1)
    rw [zipD_len ds es]
    omega
theorem walks_zipT {G : Hp} {a b : Addr} {vs us : List V} (h : SqT K G a vs) (hd : Dzs K G vs ds) (h' : SqT K G b us) (he : Dzs K G us es) : Walks K G (RZ.ItzT K a b) (zipD ds es) := fun G1 H e s => by
  have hH := ex_t (e.trans s) h
  have hH' := ex_t (e.trans s) h'
  refine ⟨fun i p hi => ?_, ⟨vs, us, hH, hH', by rw [zipD_len, hd.len, he.len]; omega⟩⟩
  obtain ⟨d, d', h1, h2, rfl⟩ := zipD_get hi
  obtain ⟨v, ev, dv⟩ := hd.get h1
  obtain ⟨u, eu, du⟩ := he.get h2
  refine ⟨⟨vs, us, v, u, hH, hH', ev, eu⟩, fun x H' hy => ?_⟩
  obtain ⟨T, w, w', rfl, hT, rfl, e2, e3⟩ := hy
  have z := e2 vs hH
  rw [ev] at z
  cases z
  have z := e3 us hH'
  rw [eu] at z
  cases z
  exact pair_new (G1 := G1) s hT (dv.mono e) (du.mono e)
theorem it_zipT (h : AgZ K tx ρ ρ' [.tup ds, .tup es]) : ItZ K (RZ.iZipA K tx) ρ ρ' (zipD ds es) := fun M G H σ S R q => h M G H σ S _ fun vs G1 H1 g1 s1 dv => by
  cases dv with
  | cons h1 h2 =>
    cases h2 with
    | cons h2 h3 =>
      cases h3
      obtain ⟨a, us, rfl, hs, hz⟩ := h1.tup_inv
      obtain ⟨b, ws, rfl, hs', hz'⟩ := h2.tup_inv
      exact ⟨a, b, us, ws, rfl, .inr ⟨ex_t s1.sub hs, ex_t s1.sub hs', q _ G1 H1 g1 s1 (walks_zipT hs hz hs' hz')⟩⟩
/-! ### a star in a display -/
theorem ag_starT {tr : TA} (h : EvZ K te ρ ρ1 (.tup ds)) (hr : AgZ K tr ρ1 ρ2 es) : AgZ K (StX.tStar K te tr) ρ ρ2 (ds ++ es) := fun M G H σ S Q q =>
  h M G H σ S _ fun v G1 H1 g1 s1 dv => by
    obtain ⟨a, us, rfl, hs, hz⟩ := dv.tup_inv
    exact ⟨a, us, rfl, .inl (ex_t s1.sub hs), hr M G1 H1 σ s1 _ fun ws G2 H2 g2 s2 dw => q _ G2 H2 (g1.trans g2) s2 ((hz.mono g2.g).app dw)⟩
/-! ### conversions -/
abbrev rTupOf (K : PySem.W.Frag) : List V → Hp → VK → Prop := fun xs H Q => ∃ p ys, xs = [.ref p] ∧ ((SqL K H p ys ∧ ∀ l, H l = none → Q (.ref l) (upd H l (.tup ys))) ∨ (SqT K H p ys ∧ Q (.ref p) H))
theorem ev_tupL (h : EvZ K te ρ ρ' (.lst ds)) : EvZ K (tCB (rTupOf K) (tCons te tNil)) ρ ρ' (.tup ds) := fun M G H σ S Q q =>
  h M G H σ S _ fun v G1 H1 g1 s1 dz => by
    obtain ⟨a, us, rfl, hs, hz⟩ := dz.lst_inv
    exact ⟨a, us, rfl, .inl ⟨ex_l s1.sub hs, fun l hl => q _ _ _ (g1.trans (.new hl s1.sub)) (s1.new hl) (.tup upd_same (hz.mono (Ex.new (fresh_back s1.sub hl))))⟩⟩
theorem ev_tupO {i : Nat} (h : ρ[i]? = some (.own ds)) : EvZ K (tCB (rTupOf K) (tCons (tVar i) tNil)) ρ ρ (.tup ds) := fun M G H σ S Q q => by
  obtain ⟨p, vs, e, m, gp, hp, dz⟩ := S.own h
  exact ⟨.ref p, e, p, vs, rfl, .inl ⟨sq_of hp, fun l hl => q _ _ _ (.new hl S.sub) (S.new hl) (.tup upd_same (dz.mono (Ex.new (fresh_back S.sub hl))))⟩⟩
abbrev rLstOf (K : PySem.W.Frag) : List V → Hp → VK → Prop := fun xs H Q => ∃ p ys, xs = [.ref p] ∧ (SqL K H p ys ∨ SqT K H p ys) ∧ ∀ l, H l = none → Q (.ref l) (upd H l (.lst ys))
theorem en_lstT (h : EvZ K te ρ ρ' (.tup ds)) : EvN K (tCB (rLstOf K) (tCons te tNil)) ρ ρ' ds := fun M G H σ S Q q =>
  h M G H σ S _ fun v G1 H1 g1 s1 dz => by
    obtain ⟨a, us, rfl, hs, hz⟩ := dz.tup_inv
    exact ⟨a, us, rfl, .inr (ex_t s1.sub hs), fun l hl => q l us G1 _ (g1.trans (.newO hl)) (s1.newO hl) (g1.d l hl) (fresh_back s1.sub hl) upd_same hz⟩
/-- the keys of a dict, in order -/
def keyD : Key → D
  | .inl i => .int i
  | .inr x => .str x
/-- keys other than the pair (0, 1) of the module's own -/
def NotZ (ks : List Key) : Prop := ks ≠ [Sum.inl 0, Sum.inl 1]
theorem NotZ.ne1 {ks : List Key} (h : NotZ ks) : ks.map keyD ≠ [.int 0, .int 1] := fun e => h (by
  match ks, e with
  | [.inl a, .inl b], e =>
    simp only [List.map_cons, List.map_nil, keyD, List.cons.injEq, D.int.injEq, and_true] at e
    rw [e.1, e.2]
  | [.inr a, .inl b], e => simp [keyD] at e
  | [.inl a, .inr b], e => simp [keyD] at e
  | [.inr a, .inr b], e => simp [keyD] at e)
theorem NotZ.ne {ks : List Key} (h : NotZ ks) : ks.map keyD ≠ [.int 0, .int 1] ∧ ¬ Heads (ks.map keyD) := ⟨h.ne1, by
  rintro ⟨es, r, e⟩
  cases ks with
  | nil => cases e
  | cons k ks =>
    rw [List.map_cons] at e
    injection e with e _
    cases k <;> cases e⟩
theorem notz_strs (xs : List Str) : NotZ (xs.map (Sum.inr : Str → Key)) := fun e => by
  cases xs with
  | nil => cases e
  | cons a xs => simp at e
theorem dz_keys {H : Hp} : ∀ {xs : List (Key × V)} {kds : List (Key × D)}, DzP K H xs kds → Dzs K H (xs.map fun kv => kV kv.1) (kds.map fun kv => keyD kv.1)
  | _, _, .nil => .nil
  | _, _, .cons (k := k) h hs => .cons (by cases k <;> first | exact .int _ | exact .str _) (dz_keys hs)
theorem ev_tupDN {kds : List (Key × D)} (h : EvZ K te ρ ρ' (.dK kds)) : EvZ K (tCB rTupD (tCons te tNil)) ρ ρ' (.tup (kds.map fun kv => keyD kv.1)) := fun M G H σ S Q q =>
  h M G H σ S _ fun v G1 H1 g1 s1 dz => by
    obtain ⟨a, us, rfl, hs, hz⟩ := dz.dK_inv
    exact ⟨a, us, rfl, s1.sub _ _ hs, fun l hl => q _ _ _ (g1.trans (.new hl s1.sub)) (s1.new hl) (.tup upd_same (dz_keys (hz.mono (Ex.new (fresh_back s1.sub hl)))))⟩
theorem en_lstRg {n : Int} (h : EvZ K te ρ ρ' (.int n)) (hn : 0 ≤ n ∧ n ≤ 16777216) : EvN K (tLstRg (tRg1 te)) ρ ρ' (rangeD 0 n.toNat) := fun M G H σ S Q q =>
  h M G H σ S _ fun v G1 H1 g1 s1 dv => ⟨n, dv.int_inv, .of_le (Int.le_refl 0) hn.2 (by decide) hn.1, fun l hl => by
    refine q l (rgV 0 n) G1 _ (g1.trans (.newO hl)) (s1.newO hl) (g1.d l hl) (fresh_back s1.sub hl) upd_same ?_
    unfold rgV rangeD
    rw [show (n - 0).toNat = n.toNat by omega]
    have all : ∀ l : List Nat, Dzs K G1 (l.map fun i => V.int (0 + (i : Nat))) (l.map fun (i : Nat) => D.int (0 + (i : Int))) := fun l => by
      induction l with
      | nil => exact .nil
      | cons i l ih => exact .cons (.int _) ih
    exact all _⟩
/-! ### slices -/
def cutD (xs : List D) (lo hi : Option Int) : List D := (xs.drop (HT.sIx xs.length 0 lo)).take (HT.sIx xs.length xs.length hi - HT.sIx xs.length 0 lo)
theorem dz_cut {H : Hp} {vs : List V} {lo hi : Option Int} (h : Dzs K H vs ds) : Dzs K H (cutV vs lo hi) (cutD ds lo hi) := by
  unfold cutV cutD
  rw [h.len]
  exact (h.drop _).take _


theorem en_slZ {tl th : TO} {lo hi : Option Int} (h : EvZ K te ρ ρ1 (.lst ds)) (h1 : PoZ K tl ρ1 ρ2 lo) (h2 : PoZ K th ρ2 ρ3 hi) : EvN K (tSl (rSlL K) te tl th) ρ ρ3 (cutD ds lo hi) := fun M G H σ S Q q =>
  h M G H σ S _ fun v G1 H1 g1 s1 dv => h1 M G1 H1 σ s1 _ fun G2 H2 g2 s2 => h2 M G2 H2 σ s2 _ fun G3 H3 g3 s3 => by
    obtain ⟨a, us, e, hs, hz⟩ := (dv.mono (g2.g.trans g3.g)).lst_inv
    have gg := (g1.trans g2).trans g3
    exact ⟨a, us, e, ex_l s3.sub hs, fun l hl => q l _ G3 _ (gg.trans (.newO hl)) (s3.newO hl) (gg.d l hl) (fresh_back s3.sub hl) upd_same (dz_cut hz)⟩
/-- a proper slice of a tuple -/
theorem ev_slT {tl th : TO} {lo hi : Option Int} (h : EvZ K te ρ ρ1 (.tup ds)) (h1 : PoZ K tl ρ1 ρ2 lo) (h2 : PoZ K th ρ2 ρ3 hi) (pr : ¬ (HT.sIx ds.length 0 lo = 0 ∧ HT.sIx ds.length ds.length hi = ds.length)) : EvZ K (tSl (rSlT K) te tl th) ρ ρ3 (.tup (cutD ds lo hi)) := fun M G H σ S Q q =>
  h M G H σ S _ fun v G1 H1 g1 s1 dv => h1 M G1 H1 σ s1 _ fun G2 H2 g2 s2 => h2 M G2 H2 σ s2 _ fun G3 H3 g3 s3 => by
    obtain ⟨a, us, e, hs, hz⟩ := (dv.mono (g2.g.trans g3.g)).tup_inv
    have gg := (g1.trans g2).trans g3
    exact ⟨a, us, e, ex_t s3.sub hs, by rw [hz.len]; exact pr, fun l hl => q _ _ _ (gg.trans (.new hl s3.sub)) (s3.new hl) (.tup upd_same (dz_cut (hz.mono (Ex.new (fresh_back s3.sub hl)))))⟩
/-! ### texts and lists of texts -/
abbrev rSplit : V → List V → Hp → VK → Prop := fun x xs H Q => ∃ a b, x = .str a ∧ xs = [.str b] ∧ (b.length == 0) = false ∧ a.length + 2 ≤ sizeLine ∧ rNewStrs (Txt.split a b) H Q
abbrev rJoin (K : PySem.W.Frag) : V → List V → Hp → VK → Prop := fun x xs H Q => ∃ a p, ∃ ys : List Str, x = .str a ∧ xs = [.ref p] ∧ (SqL K H p (ys.map V.str) ∨ SqT K H p (ys.map V.str)) ∧
      (ys.map (·.length)).sum + ys.length * a.length ≤ 16777216 ∧ Q (.str (Txt.join a ys)) H
theorem dzs_strs {H : Hp} (zs : List Str) : Dzs K H (zs.map V.str) (zs.map D.str) := .of_strs zs
theorem en_split {a b : Str} (ha : EvZ K ta ρ ρ1 (.str a)) (hb : EvZ K tb ρ1 ρ2 (.str b)) (h0 : (b.length == 0) = false) (hl : a.length ≤ 90000) : EvN K (tM1 rSplit ta tb) ρ ρ2 ((Txt.split a b).map D.str) := fun M G H σ S Q q =>
  ha M G H σ S _ fun v G1 H1 g1 s1 dv => ⟨⟨a, dv.str_inv⟩, hb M G1 H1 σ s1 _ fun w G2 H2 g2 s2 dw => ⟨a, b, dv.str_inv, by rw [dw.str_inv], h0, sz_of (by omega), fun l hl => q l _ G2 _ ((g1.trans g2).trans (.newO hl)) (s2.newO hl) ((g1.trans g2).d l hl) (fresh_back s2.sub hl) upd_same (dzs_strs _)⟩⟩
theorem ev_join {a : Str} {zs : List Str} (ha : EvZ K ta ρ ρ1 (.str a)) (hb : RdZ K tb ρ1 ρ2 (.lst (zs.map D.str))) (hl : (zs.map (·.length)).sum + zs.length * a.length ≤ 90000) : EvZ K (tM1 (rJoin K) ta tb) ρ ρ2 (.str (Txt.join a zs)) := fun M G H σ S Q q =>
  ha M G H σ S _ fun v G1 H1 g1 s1 dv => ⟨⟨a, dv.str_inv⟩, hb M G1 H1 σ s1 _ fun w G2 H2 g2 s2 dw => by
    obtain ⟨p, us, rfl, hs, hz⟩ := dw.lst_inv
    have e := hz.strs
    subst e
    exact ⟨a, p, zs, dv.str_inv, rfl, .inl hs, by omega, q _ G2 H2 (g1.trans g2) s2 (.str _)⟩⟩
/-- s < t of texts -/
abbrev rLtS : R2 := fun x y H Q => ∃ i j, x = .str i ∧ y = .str j ∧ Q (.bl (decide (i.cps.toList < j.cps.toList))) H
theorem ev_ltS {i j : Str} (ha : EvZ K ta ρ ρ1 (.str i)) (hb : EvZ K tb ρ1 ρ2 (.str j)) : EvZ K (tOp rLtS ta tb) ρ ρ2 (.bl (decide (i.cps.toList < j.cps.toList))) :=
  ev_op ha hb.rd fun u v G H Q _ du dv q => ⟨i, j, du.str_inv, dv.str_inv, q _ (.bl _)⟩
end Z

set_option Elab.async false
set_option linter.all false
set_option maxRecDepth 100000
set_option maxHeartbeats 4000000
/-! ZDcT: a dict comprehension whose keys are tuples of ints and texts. -/
namespace Z
open PySem PySem.Spec PyProof.Rows L2
/-- d[key] = v within a comprehension, the key a tracked tuple -/
theorem put_tup {X : Cx} {pins : List (Addr × Obj)} {σ : L2.St} {H : Hp} {s : Shared} {E : Value → Shared → Prop} {Q : Unit → Shared → Prop} {D b : Addr} {kvs : List (List Key × V)} {k : List Key} {v : V} {u r : Value}
    (hu : X.A.units < cLine) (I : Inv X pins σ H s) (hD : H D = some (.dT kvs)) (hb : H b = some (.tup (k.map kV))) (hz : kvs.length < sizeLine) (ru : RelV (.ref b) u) (rv : RelV v r)
    (q : ∀ s', Inv X pins σ (upd H D (.dT (putK kvs k v))) s' → Q () s') : wpAny (model X.prog X.w) X.A (dictSet D u r) Q E s := by
  obtain rfl : u = Value.ref b := ru
  obtain ⟨z, lo, xs, rel, dd⟩ := dt_of I.hok hD
  have small : xs.length ≤ sizeLine := by rw [← Paired.length rel]; exact z
  have more : (putK kvs k v).length ≤ sizeLine := by have := length_putK kvs k v; omega
  have room : (tupleKind (mixKind X.prog X.w)).room X.A := hu
  refine wpAny_dictSet_heap (hsz := small) room (key_of I.hok hb) dd fun h' dd' sb => q _ ?_
  obtain ⟨o', es, ep, g1, g2, g3, g4, _, g5⟩ := dd'
  refine d_write I (by rw [hD]; exact True.intro) sb ⟨o', g1⟩ ⟨more, lo, _, (rel.put k hb rv).keeps fun c ys ec => ?_, o', es, ep, g1, g2, g3, g4, g5⟩
  rw [upd_ne (ne_of ec hD (fun z => nomatch z))]
  exact ec
section
variable {X : Cx}
/-- {k: v for target in iter if ..}: D the new dict of tuple keys -/
def tDcT (wi : TI) (g : TG) (tt : TT) (tk tv : TE) (vs : List Nat) : TE := fun σ H Q => wi σ H fun J H1 => ∀ D, H1 D = none → ∃ W : Nat → Nat → Hp → Prop, (∃ m, W 0 m (upd H1 D (.dT []))) ∧ ∀ i m Hi, W i m Hi →
  (J.stop i Hi ∧ Q (.ref D) Hi) ∨ (J.go i Hi ∧ ∃ Nx : Hp → Prop, (∀ H', Nx H' → ∃ m', m' < m ∧ W (i + 1) m' H') ∧ ∀ x H', J.yld i Hi x H' → g x (wipe σ vs) H' fun σ2 H2 => wipe σ2 vs = wipe σ vs ∧ tt σ2 H2 fun b H3 =>
    if b = true then tk σ2 H3 fun y H4 => tv σ2 H4 fun z H5 => ∃ kvs k a, y = .ref a ∧ H5 a = some (.tup (k.map kV)) ∧ H5 D = some (.dT kvs) ∧ kvs.length < sizeLine ∧ Nx (upd H5 D (.dT (putK kvs k z))) else Nx H3)
/-- what a block of this def's asks of its parts -/
structure Parts (X : Cx) (scope : Scope) (tg : Expr) (ifs : List Expr) (kx vx : Expr) (g : TG) (tt : TT) (tk tv : TE) : Prop where
  g : ∀ (s : Shared) (H : Hp) (C : Addr) (cl : List (Str × Addr)) (fp : List Addr), PG (X.blk s H scope (compEnvC scope cl C X.env) fp) tg g
  t : ∀ (s : Shared) (H : Hp) (C : Addr) (cl : List (Str × Addr)) (fp : List Addr), PTs (X.blk s H scope (compEnvC scope cl C X.env) fp) ifs tt
  k : ∀ (s : Shared) (H : Hp) (C : Addr) (cl : List (Str × Addr)) (fp : List Addr), PE (X.blk s H scope (compEnvC scope cl C X.env) fp) kx tk
  v : ∀ (s : Shared) (H : Hp) (C : Addr) (cl : List (Str × Addr)) (fp : List Addr), PE (X.blk s H scope (compEnvC scope cl C X.env) fp) vx tv
theorem dcT_run {pins : List (Addr × Obj)} {s : Shared} {σ : L2.St} {H : Hp} {Q : VK} {kx vx tg iter : Expr} {ifs : List Expr} {scope : Scope} {own : List (Str × Nat)} {pos pos' : Pos} {wi : TI} {g : TG} {tt : TT} {tk tv : TE} {use : Option (Value → Sem Unit)} {F : Value → Shared → Prop}
    (hu : X.A.units < cLine) (calm : X.calm = true) (nd : X.N.Nodup) (I : Inv X pins σ H s) (pi : PI X tg iter wi) (ok : BlkOk X.N X.env.scope scope own) (ps : Parts X scope tg ifs kx vx g tt tk tv) (hs : ∀ x, foldedSetIterable iter X.env x = pure x)
    (h : tDcT wi g tt tk tv (own.map (·.2)) σ H Q)
    (fin : ∀ D C s' m H', Inv X pins σ H' s' → Q (.ref D) H' → s'.heap.Ns C m → FpOk X pins H' C → compPost (model X.prog X.w) X.A X.xe use F (.ref D) C (.ok .next) s') :
    wpAny (model X.prog X.w) X.A (comprehension (.DictComp kx vx [⟨tg, iter, ifs, 0⟩] scope pos) scope X.env pos' newDict false (eval iter X.env) use) F X.xe s := by
  have clo : ∀ y ∈ scope.names, y.2 = .free → ∃ c, X.env.cells.lookup y.1 = some c := fun y hy e =>
    (ok.free y hy e).elim (fun k => I.ok.has _ (.inl k)) (fun k => I.ok.has _ (.inr k))
  refine wpAny_comprehension_free (use := use) rfl hs (closure_ok clo) ok.kind (fun y hy e => by rw [ok.uniq y hy, e]) (thn (pi.run pins s σ H _ I h) fun xv s1 hx => thn hx fun itv s2 h2 => ?_)
  obtain ⟨it, fp, tn, J, H2, rfl, I2, T, st2, f2, q⟩ := h2
  refine wpAny_newObj_type (newEnv_comp ?_)
  have nD : H2 s2.heap.objs.size = none := I2.hok.fresh (Nat.le_refl _)
  obtain ⟨W, ⟨m0, w0⟩, turn⟩ := q s2.heap.objs.size nD
  -- the new dict
  have I3 : Inv X pins σ (upd H2 s2.heap.objs.size (.dT [])) { s2 with heap := s2.heap.push { cls := .type "dict", data := .dict #[] } } :=
    I2.laid (t' := s2.toks) (fun b o e => Heap.get?_push_of_some _ e) (Nat.le_refl _) (dt_empty s2.heap I2.big)
  generalize hD : s2.heap.objs.size = D at *
  generalize hH3 : upd H2 D (.dT []) = H3 at *
  have lt : ∀ b ∈ fp, b < D := fun b hb => by
    obtain ⟨o, e, _⟩ := T.obj _ _ st2 b hb
    rw [← hD]
    exact Heap.lt_size e
  have f3 : ∀ b ∈ fp, FpOk X pins H3 b ∧ b < (s2.heap.push { cls := .type "dict", data := .dict #[] }).objs.size := fun b hb => by
    refine ⟨⟨?_, (f2 b hb).2⟩, by rw [Heap.size_push, hD]; exact Nat.lt_succ_of_lt (lt b hb)⟩
    rw [← hH3, upd_ne (Nat.ne_of_lt (lt b hb))]
    exact (f2 b hb).1
  have st3 : tn 0 (s2.heap.push { cls := .type "dict", data := .dict #[] }) := T.keep _ _ _ st2 fun b _ o e => Heap.get?_push_of_some _ e
  generalize hs3 : ({ s2 with heap := s2.heap.push { cls := .type "dict", data := .dict #[] } } : Shared) = s3 at I3
  have e3 : s2.heap.push { cls := .type "dict", data := .dict #[] } = s3.heap := by rw [← hs3]
  have o3 : ∀ hp : Heap, ({ s2 with heap := hp } : Shared) = { s3 with heap := hp } := fun hp => by rw [← hs3]
  rw [e3] at st3
  have f3' : ∀ b ∈ fp, FpOk X pins H3 b ∧ b < s3.heap.objs.size := fun b hb => by rw [← e3]; exact f3 b hb
  have I4 := block_start I3 ok nd f3'
  have pg := ps.g s3 H3 s3.heap.objs.size (cellsFrom (s3.heap.objs.size + 1) scope.names (cloFrom X.env.cells scope.names [])) fp
  have pt := ps.t s3 H3 s3.heap.objs.size (cellsFrom (s3.heap.objs.size + 1) scope.names (cloFrom X.env.cells scope.names [])) fp
  have pk := ps.k s3 H3 s3.heap.objs.size (cellsFrom (s3.heap.objs.size + 1) scope.names (cloFrom X.env.cells scope.names [])) fp
  have pv := ps.v s3 H3 s3.heap.objs.size (cellsFrom (s3.heap.objs.size + 1) scope.names (cloFrom X.env.cells scope.names [])) fp
  show codeAny _ _ (.compStart (.DictComp kx vx [⟨tg, iter, ifs, 0⟩] scope pos) 0 (.ref it) (.ref D) (compEnvC scope (cellsFrom (s3.heap.objs.size + 1) scope.names (cloFrom X.env.cells scope.names [])) s3.heap.objs.size X.env))
    (compPost (model X.prog X.w) X.A X.xe use F (.ref D) s3.heap.objs.size) { s3 with heap := pushCells (s3.heap.push { cls := .type "dict", data := .dict #[] }) scope.names }
  generalize env_is : compEnvC scope (cellsFrom (s3.heap.objs.size + 1) scope.names (cloFrom X.env.cells scope.names [])) s3.heap.objs.size X.env = ce at I4 pg pt pk pv ⊢
  have locs : ce.locals = s3.heap.objs.size := by rw [← env_is]; rfl
  generalize s4_is : ({ s3 with heap := pushCells (s3.heap.push { cls := .type "dict", data := .dict #[] }) scope.names } : Shared) = s4 at I4 ⊢
  have st4 : tn 0 s4.heap := T.keep _ _ _ st3 fun b _ o e => by rw [← s4_is]; exact pushCells_keeps _ _ _ _ (Heap.get?_push_of_some _ e)
  have off : ∀ {σ' : L2.St} {H' : Hp} {s' : Shared}, Inv (X.blk s3 H3 scope ce fp) [] σ' H' s' → (∀ b ∈ fp, H' b = none) → ∀ b ∈ fp, FpOk (X.blk s3 H3 scope ce fp) [] H' b := fun {σ' H' s'} J' n b hb =>
    ⟨n b hb, (J'.ok.exf b hb).1, J'.ok.exfs b hb, .inl hb, fun x c e => (J'.ok.exf b hb).2 x c e, fun p hp => absurd (show p ∈ ([] : List (Addr × Obj)) ++ [] from hp) (by simp)⟩
  have loop : codeAny (model X.prog X.w) X.A (.compLoop (.DictComp kx vx [⟨tg, iter, ifs, 0⟩] scope pos) 0 (.ref it) (.ref D) ce) (compPost (model X.prog X.w) X.A X.xe use F (.ref D) s3.heap.objs.size) s4 := by
    refine compLoop_anyD (fun n s' => ∃ i H', Inv (X.blk s3 H3 scope ce fp) [] (wipe σ (own.map (·.2))) H' s' ∧ tn i s'.heap ∧ (∀ b ∈ fp, H' b = none) ∧ W i n H') (fun n s5 w5 => ?_) m0 ⟨0, H3, I4, st4, fun b hb => (f3' b hb).1.1, w0⟩
    obtain ⟨i, H5, I5, st5, n5, w5⟩ := w5
    cases turn i n H5 w5 with
    | inl stop =>
      obtain ⟨stop, qq⟩ := stop
      refine thnF (T.done (X.blk s3 H3 scope ce fp) rfl rfl rfl calm i [] s5 _ H5 (fun _ _ => False) I5 (off I5 n5) st5 stop) fun r s6 z => ?_
      obtain ⟨rfl, I6⟩ := z
      have I7 : Inv X pins σ H5 s6 := I3.call' (ch := fp) I6.os I6.base I6.hok I6.bare fun b hb => by
        obtain ⟨_, a2, _, a4, a5, a6⟩ := (f3' b hb).1
        exact ⟨a4, a2, a5, a6⟩
      have nC : H5 s3.heap.objs.size = none := by
        rw [← locs]
        exact I6.free
      obtain ⟨m, names, _⟩ := I6.loc
      have names : s6.heap.Ns ce.locals m := names
      rw [locs] at names
      exact fin D s3.heap.objs.size s6 m H5 I7 qq names (I3.fpOk (Nat.le_refl _) nC)
    | inr go =>
      obtain ⟨go, Nx, hNx, step⟩ := go
      refine thnF (T.item (X.blk s3 H3 scope ce fp) rfl rfl rfl calm i [] s5 _ H5 (fun _ _ => False) I5 (off I5 n5) st5 go) fun r s6 z => ?_
      obtain ⟨u, rfl, h6⟩ := z
      refine thnF h6 fun _ s7 z => ?_
      obtain ⟨x, H7, I7, r7, y7, st7, n7⟩ := z
      refine thnF (pg.run _ s7 _ H7 x u _ (I7.pinned (off I7 n7) (T.obj _ _ st7)) r7 (step x H7 y7)) fun _ s8 z => ?_
      obtain ⟨σ8, H8, I8, w8, q8⟩ := z
      refine thnF (pt.run _ s8 σ8 H8 _ I8 q8) fun b s9 z => ?_
      obtain ⟨H9, I9, q9⟩ := z
      -- from the turn's last state to the next turn
      have next : ∀ {s' : Shared} {H' : Hp}, Inv (X.blk s3 H3 scope ce fp) ([] ++ pinsAt fp s7.heap) σ8 H' s' → Nx H' → ∃ m, m < n ∧ ∃ i H', Inv (X.blk s3 H3 scope ce fp) [] (wipe σ (own.map (·.2))) H' s' ∧ tn i s'.heap ∧ (∀ b ∈ fp, H' b = none) ∧ W i m H' := fun {s' H'} J nx => by
        obtain ⟨m', lt', w'⟩ := hNx H' nx
        have held : ∀ b ∈ fp, ∀ o, s7.heap.get? b = some o → s'.heap.get? b = some o ∧ H' b = none := fun b hb o e => by
          obtain ⟨a1, a2, _⟩ := J.pin (b, o) (List.mem_append_right _ (List.mem_append_right _ (mem_pinsAt hb e)))
          exact ⟨a1, a2⟩
        refine ⟨m', lt', i + 1, H', (J.unpinned (pins := [])).weak (by rw [← w8, wipe_length]) (fun j v e => ?_), T.keep _ _ _ st7 fun b hb o e => (held b hb o e).1, fun b hb => ?_, w'⟩
        · rw [← w8] at e
          exact (wipe_some e).1
        · obtain ⟨o, e, _⟩ := T.obj _ _ st7 b hb
          exact (held b hb o e).2
      cases b with
      | false =>
        rw [if_neg Bool.false_ne_true] at q9
        show if false = true then _ else _
        rw [if_neg Bool.false_ne_true]
        exact next I9 q9
      | true =>
        rw [if_pos rfl] at q9
        show if true = true then _ else _
        rw [if_pos rfl]
        refine thnF (pk.run _ s9 σ8 H9 _ I9 q9) fun z s10 hz => ?_
        obtain ⟨yk, H10, I10, r10, q10⟩ := hz
        refine thnF (pv.run _ s10 σ8 H10 _ I10 q10) fun z2 s11 hz => ?_
        obtain ⟨yv, H11, I11, r11, kvs, k, a, rfl, ha, hD11, small, nx⟩ := hz
        exact put_tup (X := X.blk s3 H3 scope ce fp) hu I11 hD11 ha small r10 r11 fun s12 I12 => next I12 nx
  exact codeAny_compStart_dict loop (T.self X.A 0 _ _ _ st4 loop)
theorem pe_dcT {kx vx tg iter : Expr} {ifs : List Expr} {scope : Scope} {own : List (Str × Nat)} {pos : Pos} {wi : TI} {g : TG} {tt : TT} {tk tv : TE} (hu : X.A.units < cLine) (calm : X.calm = true) (nd : X.N.Nodup) (pi : PI X tg iter wi) (ok : BlkOk X.N X.env.scope scope own)
    (ps : Parts X scope tg ifs kx vx g tt tk tv) (hs : ∀ x, foldedSetIterable iter X.env x = pure x := by intro _; rfl) : PE X (.DictComp kx vx [⟨tg, iter, ifs, 0⟩] scope pos) (tDcT wi g tt tk tv (own.map (·.2))) := ⟨fun pins s σ H Q I h => by
  rw [arm_eval_DictComp]
  refine dcT_run hu calm nd I pi ok ps hs h fun D C s' m H' I' q hn f => ⟨m, hn, fun h'' sb => ?_⟩
  obtain ⟨f0, f1, f2, f3, f4, f5⟩ := f
  exact ⟨.ref D, H', I'.turned (t' := s'.toks) (fun b o hb e => (sb.2 b hb).trans e) f0 f1 f3 f4 f5, rfl, q⟩⟩
end
end Z

set_option Elab.async false
set_option linter.all false
set_option maxRecDepth 100000
set_option maxHeartbeats 4000000
/-! ZSetS: len(set(xs)), xs a list of texts. -/
namespace Z
open PySem PySem.Spec PyProof.Rows L2
def addS (acc : List Str) (x : Str) : List Str := if x ∈ acc then acc else acc ++ [x]
/-- each text once, where it is met first -/
def met (xs : List Str) : List Str := xs.foldl addS []
theorem met_snoc (xs : List Str) (x : Str) : met (xs ++ [x]) = addS (met xs) x := by
  unfold met
  rw [List.foldl_append]
  rfl
theorem addS_any (acc : List Str) (x k : Str) : (addS acc x).any (· == k) = (acc.any (· == k) || decide (k = x)) := by
  have has : ∀ (l : List Str) (y : Str), l.any (· == y) = decide (y ∈ l) := fun l y => by
    by_cases h : y ∈ l
    · rw [decide_eq_true h]
      exact List.any_eq_true.mpr ⟨y, h, beq_self_eq_true y⟩
    · rw [decide_eq_false h]
      cases e : l.any (· == y) with
      | false => rfl
      | true =>
        obtain ⟨z, hz, ez⟩ := List.any_eq_true.mp e
        rw [eq_of_beq ez] at hz
        exact absurd hz h
  rw [has, has]
  unfold addS
  by_cases h : x ∈ acc
  · rw [if_pos h]
    by_cases e : k = x
    · subst e
      rw [decide_eq_true h]
      rfl
    · rw [decide_eq_false e, Bool.or_false]
  · rw [if_neg h]
    by_cases e : k = x
    · subst e
      rw [decide_eq_true (List.mem_append_right _ List.mem_cons_self), decide_eq_true (rfl : k = k), Bool.or_true]
    · rw [decide_eq_false e, Bool.or_false]
      by_cases g : k ∈ acc
      · rw [decide_eq_true g, decide_eq_true (List.mem_append_left _ g)]
      · rw [decide_eq_false g, decide_eq_false fun z => by
          rcases List.mem_append.mp z with z | z
          · exact g z
          · rcases List.mem_cons.mp z with z | z
            · exact e z
            · cases z]
theorem addS_len (acc : List Str) (x : Str) : (addS acc x).length = if acc.any (· == x) = true then acc.length else acc.length + 1 := by
  have h0 : (acc.any (· == x) = true) ↔ x ∈ acc := by
    constructor
    · intro h
      obtain ⟨z, hz, ez⟩ := List.any_eq_true.mp h
      rw [eq_of_beq ez] at hz
      exact hz
    · intro h
      exact List.any_eq_true.mpr ⟨x, h, beq_self_eq_true x⟩
  unfold addS
  by_cases h : x ∈ acc
  · rw [if_pos h, if_pos (h0.mpr h)]
  · rw [if_neg h, if_neg fun z => h (h0.mp z), List.length_append]
    rfl
theorem met_le : ∀ (xs : List Str) (acc : List Str), (xs.foldl addS acc).length ≤ acc.length + xs.length
  | [], acc => Nat.le_refl _
  | x :: xs, acc => by
    have h := met_le xs (addS acc x)
    have e := addS_len acc x
    rw [List.foldl_cons, List.length_cons]
    split at e <;> omega
section
variable {prog : Program} {w : World} {A : Around} {R : Result → Shared → Prop} {I : Addr} {fp wr : List Addr} {G : Array GenState → Array GenState → Prop} {n : Nat} {P : Nat → Value → Prop} {St : Nat → Shared → Prop}
/-- the set at S holds what of xs was met -/
abbrev Holds (prog : Program) (w : World) (h : Heap) (S : Addr) (xs : List Str) : Prop := h.SetOf (strKind prog w) S (fun k => (met xs).any (· == k)) (met xs).length
theorem setLoop (W : WalksS prog w A.in1 I fp wr G n P St) (S : Addr) (off : S ∉ fp) (xs : List Str) (hx : xs.length = n) (small : n + 1 < scanBound) (item : ∀ i v, P i v → ∃ t x, xs[i]? = some x ∧ v = .str x t) :
    ∀ (k i : Nat) (s : Shared), i + k = n → St i s → Holds prog w s.heap S (xs.take i) →
      (∀ s', Moved (S :: wr) G s s' → Holds prog w s'.heap S xs → R (.ok (.ret .none)) s') → codeAny (model prog w) A (.builtin "set.update.loop" ⟨[.ref S, .ref I], []⟩) R s := by
  have offw : S ∉ wr := fun h => off (W.sub _ h)
  have sub : ∀ b ∈ wr, b ∈ S :: wr := fun b hb => List.mem_cons_of_mem _ hb
  have go : ∀ (i : Nat) (s s' : Shared), Moved wr G s s' → Holds prog w s.heap S (xs.take i) → Holds prog w s'.heap S (xs.take i) := fun i s s' mv h => by
    obtain ⟨o, es, ep, t, ho, rest⟩ := h
    exact ⟨o, es, ep, t, mv.heap S _ offw ho, rest⟩
  intro k
  induction k with
  | zero =>
    intro i s hk hst hS hR
    obtain rfl : i = n := by omega
    refine codeAny_builtin PyProof.Rows.F.entry_set_update_loop ?_
    rw [Around.under_plainId PyProof.Rows.F.plain_set_update_loop _]
    show wpAny _ A.in1 (pyNext (.ref I) >>= _) _ _ s
    refine wpAny_bind (W.done s _ _ hst fun s' mv => ?_)
    show wpAny _ A.in1 (ret Value.none) _ _ s'
    have e : xs.take i = xs := List.take_of_length_le (by omega)
    exact wpAny_pure (hR s' (mv.mono sub) (by have h := go i s s' mv hS; rw [e] at h; exact h))
  | succ k ih =>
    intro i s hk hst hS hR
    have lt : i < n := by omega
    refine codeAny_builtin PyProof.Rows.F.entry_set_update_loop ?_
    rw [Around.under_plainId PyProof.Rows.F.plain_set_update_loop _]
    show wpAny _ A.in1 (pyNext (.ref I) >>= _) _ _ s
    refine wpAny_bind (W.item i s _ _ lt hst fun v s' hP hst' mv => ?_)
    obtain ⟨t, x, hxi, rfl⟩ := item i v hP
    have hS' := go i s s' mv hS
    show wpAny _ A.in1 (holding [Value.str x t] (setAdd S (.str x t)) >>= _) _ _ s'
    refine wpAny_bind (wpAny_holding ?_)
    unfold setAdd
    have room : (met (xs.take i)).length + 1 < scanBound := by
      have h := met_le (xs.take i) []
      have h2 : (met (xs.take i)).length ≤ i := Nat.le_trans h (by rw [List.length_take]; simp; omega)
      omega
    refine wpAny_holding (wpAny_bind ((strKind prog w).pyHash (k := x) (strKind_is _ _ _ _) ?_))
    refine wpAny_setAddHashed_of (knd := strKind prog w) (s := { s' with toks := s'.toks + 1 }) (strKind_is _ _ _ _) rfl hS' room fun h' sb hS2 => ?_
    have tk : xs.take (i + 1) = xs.take i ++ [x] := by rw [List.take_add_one, hxi]; rfl
    have hSi : Holds prog w h' S (xs.take (i + 1)) := by
      unfold Holds
      rw [tk, met_snoc]
      exact SetOf_congr hS2 (fun k' => (addS_any _ _ _).symm) (addS_len _ _).symm
    refine wpAny_pure ⟨plainId_quiet PyProof.Rows.F.plain_set_update_loop _, ih (i + 1) _ (by omega) (W.frame _ s' _ _ hst' (Nat.le_succ _) fun b hb o e => ?_) hSi fun s'' mv'' hS'' => ?_⟩
    · rw [sb.2 b (fun z => off (by rw [← z]; exact hb))]
      exact e
    · refine hR s'' (Moved.trans W.gtrans ((mv.mono sub).then_heap (Nat.le_succ _) fun b o hb e => ?_) mv'') hS''
      rw [sb.2 b (fun z => hb (by rw [z]; exact List.mem_cons_self))]
      exact e
end
section
variable {prog : Program} {w : World} {A : Around} {E : Value → Shared → Prop} {s : Shared}
/-- the texts' values, by place -/
theorem str_at : ∀ {us : List Value} {xs : List Str}, Vals (xs.map V.str) us → ∀ (i : Nat) (v : Value), us[i]? = some v → ∃ t x, xs[i]? = some x ∧ v = .str x t
  | _, [], .nil, _, _, h => by cases h
  | _, x :: xs, .cons r t, 0, v, h => by
    obtain ⟨k, rfl⟩ := r
    cases h
    exact ⟨k, x, rfl, rfl⟩
  | _, x :: xs, .cons r t, i + 1, v, h => str_at (xs := xs) t i v (by simpa using h)
abbrev setObj (led : Bool) : Obj := { cls := .type "set", dict := none, data := .set #[] 0 (.fresh 0 0 led) }
set_option maxHeartbeats 8000000 in
theorem call_set_strs {l : Addr} {items : Array Value} {xs : List Str} {Q : Value → Shared → Prop} (hh : A.handled = none) (hl : s.heap.IsList l items) (hv : Vals (xs.map V.str) items.toList) (small : xs.length + 1 < scanBound)
    (q : ∀ h' tk, Holds prog w h' s.heap.objs.size xs → (∀ b o, b < s.heap.objs.size → s.heap.get? b = some o → h'.get? b = some o) → Q (.ref s.heap.objs.size) { s with heap := h', toks := tk }) :
    wpAny (model prog w) A (call (.type "set") [.ref l]) Q E s := by
  have sizes : xs.length = items.size := by have h := hv.length; rw [List.length_map, Array.length_toList] at h; exact h
  obtain ⟨c, tl, hmro⟩ := F.called_set.mro
  have made := F.called_set.made
  have sub := F.called_set.sub
  refine wpAny_call (codeAny_of_tree ?_)
  show wpAny _ _ (callAny (.type "set") _) _ _ _
  refine wpAny_pure ⟨Code.quiet_builtin _ (by decide +kernel), codeAny_builtin F.entry_type_call ?_⟩
  rw [Around.under_plain (weight_type_call_type "set" [.ref l] []) rfl]
  have k1 := F.called_set.notType
  have k2 := F.called_set.canCreate
  have k3 := F.typeCall_set_1 (.ref l)
  repeat (any_goals (first | assumption | wp_step))
  let Q1 : Value → Shared → Prop := fun obj s₁ => ∃ led : Bool, obj = .ref s.heap.objs.size ∧ s₁ = { s with heap := s.heap.push (setObj led) }
  refine codeAny_mono (code_set_new_1 (.ref l) (E := E) (Q₁ := Q1) fun led => ⟨led, rfl, rfl⟩) fun r s₁ hr => ?_
  cases r with
  | error e => exact hr
  | ok fl =>
    cases fl with
    | next => exact hr.elim
    | brk => exact hr.elim
    | cont => exact hr.elim
    | ret obj =>
      obtain ⟨led, rfl, rfl⟩ := hr
      have at0 : (s.heap.push (setObj led)).get? s.heap.objs.size = some (setObj led) := Heap.get?_push_size _ rfl
      have ty : Shared.TypeIs { s with heap := s.heap.push (setObj led) } (.ref s.heap.objs.size) "set" := ⟨_, at0, rfl⟩
      have k4 := F.called_set.init.lookup
      have k5 := F.called_set.init.bind (.ref s.heap.objs.size)
      repeat (any_goals (first | assumption | wp_step))
      let Q2 : Value → Shared → Prop := fun r s₂ => r = .none ∧ ∃ h' tk, s₂ = { s with heap := h', toks := tk } ∧ Holds prog w h' s.heap.objs.size xs ∧ (∀ b o, b < s.heap.objs.size → s.heap.get? b = some o → h'.get? b = some o)
      refine codeAny_mono (codeAny_call_builtin (R := wants Q2 E) F.called_set.init.plain F.entry_set_init (check_set_init_1 ty ?_)) fun r₂ s₂ hr₂ => ?_
      · obtain ⟨⟨oc, od, odt, osl⟩, hol, hcl, nl, hdl⟩ := hl
        obtain rfl : oc = .type "list" := hcl
        obtain rfl : odt = .seq items nl := hdl
        have low : l < s.heap.objs.size := Heap.lt_size hol
        have at1 := Heap.get?_push_of_some (setObj led) hol
        have is1 : (s.heap.push (setObj led)).IsList l items := ⟨_, at1, rfl, nl, rfl⟩
        have k6 := F.sub_list_set
        have k7 := F.sub_list_frozenset
        have k8 : (Value.type "list" == Value.type "dict") = false := by decide
        unfold Builtin.«set.__init__» noKeywords Builtin.Frozenset.updateFrom
        generalize it_is : pyIter = PI
        wp_walk
        subst it_is
        refine wpAny_pyIter_list is1 (wpAny_bind (wpAny_runValue ?_))
        have sz : (s.heap.push (setObj led)).objs.size = s.heap.objs.size + 1 := Heap.size_push ..
        have apart : l ≠ (s.heap.push (setObj led)).objs.size := by rw [sz]; exact Nat.ne_of_lt (Nat.lt_succ_of_lt low)
        have off : s.heap.objs.size ∉ [(s.heap.push (setObj led)).objs.size, l] := fun z => by
          rw [sz] at z
          rcases List.mem_cons.mp z with z | z
          · exact absurd z (Nat.ne_of_lt (Nat.lt_succ_self _))
          · exact absurd (List.mem_singleton.mp z) (Nat.ne_of_gt low)
        have h3 : A.in1.in1.in1.handled = none := by simp [hh]
        refine setLoop ((Walks.list h3 _ l apart items).toS) s.heap.objs.size off xs sizes (by rw [← sizes]; exact small) (fun i v hv' => str_at hv i v (by rw [Array.getElem?_toList]; exact hv')) items.size 0 _ (Nat.zero_add _) ⟨⟨_, Heap.get?_push_size _ rfl, rfl, rfl⟩, is1.push _⟩ ?start ?done
        case start =>
          have g := Heap.get?_push_of_some { cls := .type "list_iterator", data := .fields #[.ref l, .int 0 0] } at0
          exact SetOf_congr ((setObjOf_fresh (knd := strKind prog w) led).setOf g (by unfold scanBound; omega)) (fun _ => rfl) rfl
        case done =>
          intro s' mv held
          obtain ⟨h', g', d', tk', os'⟩ := s'
          obtain rfl : g' = s.gens := mv.gens
          obtain rfl : d' = s.drawn := mv.drawn
          obtain rfl : os' = s.os := mv.os
          show wpAny _ _ _ _ _ _
          refine wpAny_pure ?_
          show wpAny _ _ (ret Value.none) _ _ _
          refine wpAny_pure ⟨rfl, h', tk', rfl, held, fun b o hb e => mv.heap b o (fun z => ?_) (Heap.get?_push_of_some _ (Heap.get?_push_of_some _ e))⟩
          rcases List.mem_cons.mp z with z | z
          · exact absurd z (Nat.ne_of_lt hb)
          · rw [List.mem_singleton.mp z, sz] at hb
            exact absurd hb (by omega)
      · cases r₂ with
        | error e => exact hr₂
        | ok fl₂ =>
          cases fl₂ with
          | next => exact hr₂.elim
          | brk => exact hr₂.elim
          | cont => exact hr₂.elim
          | ret r =>
            obtain ⟨rfl, h', tk, rfl, held, keep⟩ := hr₂
            repeat (any_goals (first | assumption | wp_step))
            exact q _ _ held keep
end
/-- len(set(xs)), xs a list of texts -/
def tLenSetS (K : PySem.W.Frag) (ta : TE) : TE := fun σ H Q => ta σ H fun x H1 => ∃ (l : Addr) (xs : List Str), x = .ref l ∧ SqL K H1 l (xs.map V.str) ∧ xs.length ≤ 4000 ∧ Q (.int ((met xs).length : Nat)) H1
theorem pe_lenSetS {X : Cx} {a : Expr} {ta : TE} {p p2 q pos : Pos} (hg : Gl X "len") (hm : X.mg "len" = none) (hg2 : Gl X "set") (hm2 : X.mg "set" = none) (ha : PE X a ta) (calm : X.calm = true := by rfl)
    (na : starEach [a] X.env = (false, eval a X.env) :: starEach [] X.env := by rfl) : PE X (.Call (.Name "len" p) [.Call (.Name "set" p2) [a] [] q] [] pos) (tLenSetS X.K ta) := ⟨fun pins s σ H Q I h => by
  refine Call_ (ld_blt I hg hm boot_len (PyProof.Rows.callWith_builtin1 (PyProof.Rows.args_cons ?_ rfl) rfl rfl))
  refine Call_ (ld_blt I hg2 hm2 boot_set (PyProof.Rows.callWith_type1 (PyProof.Rows.args_cons (thn (ha.run pins s σ H _ I h) fun v s1 hh => PyProof.Rows.args_nil ?_) na) na rfl))
  obtain ⟨x, H1, I1, r1, l, xs, rfl, hq, small, q1⟩ := hh
  cases r1
  obtain ⟨its, r, pl, hz⟩ := I1.list hq
  refine call_set_strs (I1.ok.hd calm) pl.isList (by simpa using r) (by unfold scanBound; omega) fun h' tk held keep => PyProof.Rows.args_nil ?_
  obtain ⟨o, es, ep, t, ho, hex, hd, _, _, _, hf, hn⟩ := held
  have I2 : Inv X pins σ H1 { s1 with heap := h', toks := tk } := I1.kept fun b o e => keep b o (Heap.lt_size e) e
  have few : (met xs).length ≤ xs.length := by
    have h := met_le xs []
    rw [List.length_nil] at h
    unfold met
    omega
  exact call_len_set ho hex hd hf (by rw [hn]; unfold scanBound at *; omega) ⟨.int (met xs).length, H1, I2.tok _, ⟨_, by rw [hn]⟩, q1⟩⟩
end Z

set_option Elab.async false
set_option linter.all false
set_option maxRecDepth 100000
set_option maxHeartbeats 2000000
/-! ZDict: dicts, fields, methods, new instances, over cells. -/
namespace Z
open PySem PySem.Spec PyProof.Rows L2
open Evl (Ex Ex.refl Ex.trans Ex.new ex_rd ex_l ex_t sq_of st_of fresh_back sz_of sz_lt)
section
variable {κ : Type} [DecidableEq κ]
def putD (kds : List (κ × D)) (k : κ) (v : D) : List (κ × D) :=
  if (kds.any fun kv => decide (kv.1 = k)) = true then kds.map (fun kv => if kv.1 = k then (kv.1, v) else kv) else kds ++ [(k, v)]
theorem putD_len (kds : List (κ × D)) (k : κ) (v : D) : (putD kds k v).length ≤ kds.length + 1 := by
  unfold putD
  split
  · rw [List.length_map]; omega
  · rw [List.length_append]; exact Nat.le_refl _
end
variable {K : PySem.W.Frag} {S : List Nat} {ρ ρ' ρ1 ρ2 ρ3 ρ4 : Rho} {ta tb td tk tv ty te : TE} {tt : TT} {g : TG} {tx : TA} {d e x y : D} {ds es rs : List D} {H : Hp}
/-! ### what stands at a key -/
theorem DzP.len : ∀ {xs : List (Key × V)} {kds : List (Key × D)}, DzP K H xs kds → xs.length = kds.length
  | _, _, .nil => rfl
  | _, _, .cons _ hs => congrArg (· + 1) hs.len
theorem DzT.len : ∀ {xs : List (List Key × V)} {kds : List (List Key × D)}, DzT K H xs kds → xs.length = kds.length
  | _, _, .nil => rfl
  | _, _, .cons _ hs => congrArg (· + 1) hs.len
theorem DzP.any (k : Key) : ∀ {xs : List (Key × V)} {kds : List (Key × D)}, DzP K H xs kds → (xs.any fun kv => decide (kv.1 = k)) = (kds.any fun kv => decide (kv.1 = k))
  | _, _, .nil => rfl
  | _, _, .cons _ hs => by rw [List.any_cons, List.any_cons, DzP.any k hs]
theorem DzT.any (k : List Key) : ∀ {xs : List (List Key × V)} {kds : List (List Key × D)}, DzT K H xs kds → (xs.any fun kv => decide (kv.1 = k)) = (kds.any fun kv => decide (kv.1 = k))
  | _, _, .nil => rfl
  | _, _, .cons _ hs => by rw [List.any_cons, List.any_cons, DzT.any k hs]
theorem DzP.snoc {k : Key} {v : V} {d : D} (hv : Dz K H v d) : ∀ {xs : List (Key × V)} {kds : List (Key × D)}, DzP K H xs kds → DzP K H (xs ++ [(k, v)]) (kds ++ [(k, d)])
  | _, _, .nil => .cons hv .nil
  | _, _, .cons h hs => .cons h (hs.snoc hv)
theorem DzT.snoc {k : List Key} {v : V} {d : D} (hv : Dz K H v d) : ∀ {xs : List (List Key × V)} {kds : List (List Key × D)}, DzT K H xs kds → DzT K H (xs ++ [(k, v)]) (kds ++ [(k, d)])
  | _, _, .nil => .cons hv .nil
  | _, _, .cons h hs => .cons h (hs.snoc hv)
theorem DzP.repl {k : Key} {v : V} {d : D} (hv : Dz K H v d) : ∀ {xs : List (Key × V)} {kds : List (Key × D)}, DzP K H xs kds → DzP K H (xs.map fun kv => if kv.1 = k then (kv.1, v) else kv) (kds.map fun kv => if kv.1 = k then (kv.1, d) else kv)
  | _, _, .nil => .nil
  | _, _, .cons (k := k') h hs => by
    rw [List.map_cons, List.map_cons]
    by_cases e : k' = k
    · rw [if_pos e, if_pos e]; exact .cons hv (hs.repl hv)
    · rw [if_neg e, if_neg e]; exact .cons h (hs.repl hv)
theorem DzT.repl {k : List Key} {v : V} {d : D} (hv : Dz K H v d) : ∀ {xs : List (List Key × V)} {kds : List (List Key × D)}, DzT K H xs kds → DzT K H (xs.map fun kv => if kv.1 = k then (kv.1, v) else kv) (kds.map fun kv => if kv.1 = k then (kv.1, d) else kv)
  | _, _, .nil => .nil
  | _, _, .cons (k := k') h hs => by
    rw [List.map_cons, List.map_cons]
    by_cases e : k' = k
    · rw [if_pos e, if_pos e]; exact .cons hv (hs.repl hv)
    · rw [if_neg e, if_neg e]; exact .cons h (hs.repl hv)
theorem DzP.put {k : Key} {v : V} {d : D} {xs : List (Key × V)} {kds : List (Key × D)} (h : DzP K H xs kds) (hv : Dz K H v d) : DzP K H (putK xs k v) (putD kds k d) := by
  unfold putK putD
  rw [h.any k]
  by_cases e : (kds.any fun kv => decide (kv.1 = k)) = true
  · rw [if_pos e, if_pos e]; exact h.repl hv
  · rw [if_neg e, if_neg e]; exact h.snoc hv
theorem DzT.put {k : List Key} {v : V} {d : D} {xs : List (List Key × V)} {kds : List (List Key × D)} (h : DzT K H xs kds) (hv : Dz K H v d) : DzT K H (putK xs k v) (putD kds k d) := by
  unfold putK putD
  rw [h.any k]
  by_cases e : (kds.any fun kv => decide (kv.1 = k)) = true
  · rw [if_pos e, if_pos e]; exact h.repl hv
  · rw [if_neg e, if_neg e]; exact h.snoc hv
/-- a key as a value -/
theorem key_of_dz {k : Key} {v : V} (h : Dz K H v (keyD k)) : v = kV k := by
  cases k with
  | inl i => exact h.int_inv
  | inr x => exact h.str_inv
theorem keys_of_dz : ∀ {ks : List Key} {vs : List V}, Dzs K H vs (ks.map keyD) → vs = ks.map kV
  | [], _, .nil => rfl
  | k :: ks, _, .cons h hs => by rw [key_of_dz h, keys_of_dz hs]; rfl
/-! ### looking up -/
/-! ### a dict of the frame's own -/
theorem ex_setDK {i : Nat} (hi : i ∉ S) : ExZ K S (tAsg tDNewK (gName i)) ρ (.nx (ρ.set i (.mu (.dK [])))) := fun M G H σ E f s q => fun p hp =>
  q G _ _ (.newO hp) (Keep.set hi) ((s.newO hp).setO (f p hp) (fresh_back s.sub hp) upd_same (m := .dK []) .nil fun j n _ e1 e2 => s.noOwn hp j n e1 e2)
/-! ### fields -/
theorem DzF.look {f : Str} : ∀ {xs : List (Str × V)} {fs : List (Str × D)}, DzF K H xs fs → (∀ d, fs.lookup f = some d → ∃ v, xs.lookup f = some v ∧ Dz K H v d) ∧ (fs.lookup f = none → xs.lookup f = none)
  | _, _, .nil => ⟨fun d h => (by cases h), fun _ => rfl⟩
  | _, _, .cons (k := k) (v := v) (d := d) (xs := xs) (ds := fs) h hs => by
    have ih := DzF.look (f := f) hs
    rw [List.lookup_cons, List.lookup_cons]
    by_cases e : (f == k) = true
    · rw [e]
      exact ⟨fun d' z => by cases z; exact ⟨v, rfl, h⟩, fun z => by cases z⟩
    · have e' : (f == k) = false := by simpa using e
      rw [e']
      exact ih
theorem DzF.len : ∀ {xs : List (Str × V)} {fs : List (Str × D)}, DzF K H xs fs → xs.length = fs.length
  | _, _, .nil => rfl
  | _, _, .cons _ hs => congrArg (· + 1) hs.len
def putFD (f : Str) (d : D) : List (Str × D) → List (Str × D)
  | [] => [(f, d)]
  | (g, x) :: r => if g = f then (g, d) :: r else (g, x) :: putFD f d r
theorem DzF.put {f : Str} {v : V} {d : D} (hv : Dz K H v d) : ∀ {xs : List (Str × V)} {fs : List (Str × D)}, DzF K H xs fs → DzF K H (putF f v xs) (putFD f d fs)
  | _, _, .nil => .cons hv .nil
  | _, _, .cons (k := k) h hs => by
    unfold putF putFD
    by_cases e : k = f
    · rw [if_pos e, if_pos e]; exact .cons hv hs
    · rw [if_neg e, if_neg e]; exact .cons h (hs.put hv)
theorem ev_fld {C : Addr} {f : Str} {fs : List (Str × D)} (c : Cls K C) (n : NoAttr K C f) (h : EvZ K te ρ ρ1 (.ins C fs)) (l : fs.lookup f = some d) : EvZ K (tFld K te f) ρ ρ1 d := fun M G H σ S Q q =>
  h M G H σ S _ fun v G1 H1 g1 s1 dv => by
    obtain ⟨a, dx, us, rfl, hs, hz⟩ := dv.ins_inv
    obtain ⟨u, e1, du⟩ := hz.look.1 d l
    exact ⟨a, C, dx, us, u, rfl, s1.sub _ _ hs, c, n, e1, q u G1 H1 g1 s1 du⟩
/-- a field of the frame's own instance -/
theorem ev_fldO {C : Addr} {f : Str} {fs : List (Str × D)} {i : Nat} (c : Cls K C) (n : NoAttr K C f) (h : ρ[i]? = some (.mu (.ins C fs))) (l : fs.lookup f = some d) : EvZ K (tFld K (tVar i) f) ρ ρ d := fun M G H σ S Q q => by
  obtain ⟨p, o, e, m, gp, hp, dz⟩ := S.mu h
  obtain ⟨dx, us, rfl, hz⟩ := mok_ins dz
  obtain ⟨u, e1, du⟩ := hz.look.1 d l
  exact ⟨.ref p, e, p, C, dx, us, u, rfl, hp, c, n, e1, q u G H .refl S du⟩
/-- self.f = e -/
theorem ex_fld {C : Addr} {f : Str} {fs0 fs : List (Str × D)} {i : Nat} (c : Cls K C) (n : NoAttr K C f) (hv : EvZ K tv ρ ρ1 d) (h : ρ1[i]? = some (.mu (.ins C fs))) (hl : fs.length < 1000) : ExZ K S (sFld K (tVar i) tv f) ρ (.nx (ρ1.set i (.mu (.ins C (putFD f d fs))))) := fun M G H σ E fr s q =>
  hv M G H σ s _ fun v G1 H1 g1 s1 dv => by
    obtain ⟨p, o, e, m, gp, hp, dz⟩ := s1.mu h
    obtain ⟨dx, us, rfl, hz⟩ := mok_ins dz
    exact ⟨.ref p, e, p, C, dx, us, rfl, hp, c, n, by rw [hz.len]; exact hl, q G1 _ σ (g1.trans (growM s1 h e)) .refl (s1.chU h e (n := .ins C (putFD f d fs)) ⟨rfl, hz.put dv⟩)⟩
/-! ### methods, new instances -/
/-- len(set(texts)) -/
theorem ev_lenSet {zs : List Str} (h : RdZ K te ρ ρ1 (.lst (zs.map D.str))) (hl : zs.length ≤ 4000) : EvZ K (tLenSetS K te) ρ ρ1 (.int ((met zs).length : Int)) := fun M G H σ S Q q =>
  h M G H σ S _ fun v G1 H1 g1 s1 dv => by
    obtain ⟨a, us, rfl, hs, hz⟩ := dv.lst_inv
    have e := hz.strs
    subst e
    exact ⟨a, zs, rfl, hs, hl, q _ G1 H1 g1 s1 (.int _)⟩
end Z

set_option Elab.async false
set_option linter.all false
set_option maxRecDepth 100000
set_option maxHeartbeats 2000000
/-! ZDc: dict comprehensions over cells. -/
namespace Z
open PySem PySem.Spec PyProof.Rows L2
open Evl (Ex Ex.refl Ex.trans Ex.new ex_rd ex_l ex_t sq_of st_of fresh_back sz_of sz_lt)
variable {K : PySem.W.Frag} {ρ ρ' ρ1 ρ2 ρ3 : Rho} {tk tv te ta tb : TE} {tt : TT} {ds es : List D} {d : D}
/-- the items ds, one turn behind the other: acc becomes out -/
inductive CompDK (K : PySem.W.Frag) (g : TG) (tt : TT) (tk tv : TE) (vs A : List Nat) : List D → Rho → List (Key × D) → List (Key × D) → Rho → Prop
  | nil {ρ : Rho} {acc : List (Key × D)} : CompDK K g tt tk tv vs A [] ρ acc acc ρ
  | yes {ρ ρ1 ρ2 ρ3 ρ4 ρ5 : Rho} {d r : D} {k : Key} {ds : List D} {acc out : List (Key × D)} : TgZ K g A d ρ ρ1 → TsZ K tt ρ1 ρ2 true → EvZ K tk ρ2 ρ3 (keyD k) → EvZ K tv ρ3 ρ4 r → CompDK K g tt tk tv vs A ds (wipeR ρ4 vs) (putD acc k r) out ρ5 → CompDK K g tt tk tv vs A (d :: ds) ρ acc out ρ5
structure CWDK (K : PySem.W.Frag) (g : TG) (tt : TT) (tk tv : TE) (vs A : List Nat) (M : MS) (G1 H1 : Hp) (Dl : Addr) (σ : L2.St) (ds : List D) (out : List (Key × D)) (ρ' : Rho) (i : Nat) (H : Hp) : Prop where
  ex : ∃ G ρi acc vd, Grow (fun a => M a ∨ a = Dl) G1 H1 G H ∧ Sim K (fun a => M a ∧ a ≠ Dl) G H (L2.wipe σ vs) ρi ∧ CompDK K g tt tk tv vs A (ds.drop i) ρi acc out ρ' ∧ acc.length ≤ i ∧ G Dl = none ∧ H Dl = some (.dK vd) ∧ DzP K G vd acc
theorem dcK_at {wi : TI} {g : TG} {vs A : List Nat} {out : List (Key × D)} {M : MS} {G H : Hp} {σ : L2.St} (S : Sim K M G H σ ρ) (hi : ∀ R : It → Hp → Prop, (∀ J G' H', Grow M G H G' H' → Sim K M G' H' σ ρ1 → Walks K G' J ds → R J H') → wi σ H R) (hc : CompDK K g tt tk tv vs A ds (wipeR ρ1 vs) [] out ρ') (hA : ∀ i ∈ A, i ∈ vs) (ho : OwnIn ρ' ρ) (hl : ds.length ≤ 99999) (Q : VK) (q : ∀ v G' H', Grow M G H G' H' → Sim K M G' H' σ ρ' → Dz K G' v (.dK out) → Q v H') : tDc wi g tt tk tv vs σ H Q :=
  hi _ fun J G1 H1 g1 s1 wk D hD => by
    have hD0 := g1.d D hD
    have s1' : Sim K M G1 H1 (L2.wipe σ vs) (wipeR ρ1 vs) := s1.wipe (wipe_length σ vs) fun i h => wipe_get h
    refine ⟨fun i m Hh => i ≤ ds.length ∧ m = ds.length - i ∧ CWDK K g tt tk tv vs A M G1 H1 D σ ds out ρ' i Hh, ⟨ds.length, Nat.zero_le _, rfl, ⟨G1, wipeR ρ1 vs, [], [], .newO hD, ?_, hc, Nat.le_refl _, fresh_back s1.sub hD, upd_same, .nil⟩⟩, ?_⟩
    · exact (s1'.newO hD).chMo fun p es i e1 e2 => by
        obtain ⟨p', us, e', m, gp, hp, dz⟩ := s1'.mu e1
        rw [e2] at e'
        cases e'
        exact ⟨m, fun z => by subst z; rw [hD] at hp; cases hp⟩
    · rintro i m Hi ⟨hle, rfl, ⟨Gi, ρi, acc, vd, gi, si, ci, hacc, gD, hiD, dD⟩⟩
      obtain ⟨w1, w2⟩ := wk Gi Hi gi.g si.sub
      cases hit : ds[i]? with
      | none =>
        have hge : ds.length ≤ i := List.getElem?_eq_none_iff.mp hit
        have ei : i = ds.length := Nat.le_antisymm hle hge
        subst ei
        refine .inl ⟨w2, ?_⟩
        rw [List.drop_eq_nil_of_le hge] at ci
        cases ci
        have gg : Grow M G1 H1 Gi Hi := gi.wk fun a e z => by
          rcases z with z | z
          · exact z
          · subst z; exact absurd hD e
        have sF : Sim K M Gi Hi σ ρ' := sim_unwipe (si.chM fun a _ z => z.1)
        have eg : Ex Gi (upd Gi D (.dK vd)) := Ex.new gD
        have nw : ∀ (j : Nat) (es : MO), ρ'[j]? = some (.mu es) → σ[j]? ≠ some (some (.ref D)) := fun j es h => by
          obtain ⟨fs, e⟩ := ho j es h
          exact S.noOwn hD0 j fs e
        refine q _ (upd Gi D (.dK vd)) Hi (g1.trans ⟨gg.g.trans eg, gg.k, fun a n e z => ?_, gg.d⟩) (sF.grow (fun a u e => ?_) eg fun q' es j e1 e2 => ?_) (.dK upd_same (dD.mono eg))
        · have n1 : a ≠ D := fun y => by subst y; exact e hD
          rw [upd_ne n1]
          exact gg.n a n e z
        · by_cases y : a = D
          · subst y; rw [upd_same] at e; cases e; exact hiD
          · rw [upd_ne y] at e; exact sF.sub a u e
        · have ne' : q' ≠ D := fun z => by subst z; exact nw j es e1 e2
          obtain ⟨q2, us, e', m, gq, hq, dq⟩ := sF.mu e1
          rw [e2] at e'
          cases e'
          exact ⟨rfl, by rw [upd_ne ne']; exact gq⟩
      | some d =>
        obtain ⟨hlt, ed⟩ := List.getElem?_eq_some_iff.mp hit
        obtain ⟨hgo, hy⟩ := w1 i d hit
        rw [List.drop_eq_getElem_cons hlt, ed] at ci
        refine .inr ⟨hgo, CWDK K g tt tk tv vs A M G1 H1 D σ ds out ρ' (i + 1), fun H' w => ⟨ds.length - (i + 1), by omega, by omega, rfl, w⟩, fun x H' yl => ?_⟩
        obtain ⟨G2, g2, s2, dx⟩ := hy x H' yl
        have S2 : Sim K (fun a => M a ∧ a ≠ D) G2 H' (L2.wipe σ vs) ρi := si.after g2 s2
        have hD2 : H' D = some (.dK vd) := g2.k D _ (fun z => z) hiD
        have gD2 : G2 D = none := g2.n D (fun z => z) (by rw [hiD]; simp) gD
        have gi2 : Grow (fun a => M a ∨ a = D) G1 H1 G2 H' := gi.trans (g2.wk fun a _ z => z.elim)
        cases ci with
        | yes t1 t2 t3 t4 t5 =>
          rename_i ρa ρb ρc ρd r k
          refine t1 _ G2 H' _ x S2 dx _ fun σa la ka Sa => ⟨?_, ?_⟩
          · exact (wipe_eq (σ := L2.wipe σ vs) (vs := vs) la fun j hj => ka j fun z => hj (hA j z)).trans (wipe_eq (wipe_length σ vs) fun j hj => wipe_get hj)
          refine t2 _ G2 H' _ Sa _ fun G3 H3 g3 s3 => ?_
          rw [if_pos rfl]
          refine t3 _ G3 H3 _ s3 _ fun u G4 H4 g4 s4 du => t4 _ G4 H4 _ s4 _ fun v G5 H5 g5 s5 dv => ?_
          have gg := (g3.trans g4).trans g5
          have hD5 : H5 D = some (.dK vd) := gg.k D _ (fun z => z.2 rfl) hD2
          have gD5 : G5 D = none := gg.n D (fun z => z.2 rfl) (by rw [hD2]; simp) gD2
          have dd : DzP K G5 (putK vd k v) (putD acc k r) := (dD.mono (g2.g.trans gg.g)).put dv
          have s6 : Sim K (fun a => M a ∧ a ≠ D) G5 (upd H5 D (.dK (putK vd k v))) σa ρd := s5.other gD5 (s5.nin fun z => z.2 rfl)
          have ga := gi2.trans (gg.wk (M' := fun a => M a ∨ a = D) fun a _ z => .inl z.1)
          have nx : CWDK K g tt tk tv vs A M G1 H1 D σ ds out ρ' (i + 1) (upd H5 D (.dK (putK vd k v))) := by
            refine ⟨G5, wipeR ρd vs, putD acc k r, putK vd k v, ⟨ga.g, fun a o m e => ?_, ga.n, fun a e => ga.d a (upd_none e)⟩, s6.wipe (by rw [la, wipe_length]) fun j hj => by rw [ka j fun z => hj (hA j z)], t5, by have := putD_len acc k r; omega, gD5, upd_same, dd⟩
            rw [upd_ne fun z => m (.inr z)]
            exact ga.k a o m e
          have small : vd.length < sizeLine := sz_lt (by rw [dD.len]; omega)
          exact ⟨vd, k, key_of_dz du, hD5, small, nx⟩
theorem ev_dcK {wi : TI} {g : TG} {vs A : List Nat} {out : List (Key × D)} (hi : ItZ K wi ρ ρ1 ds) (hc : CompDK K g tt tk tv vs A ds (wipeR ρ1 vs) [] out ρ') (hA : ∀ i ∈ A, i ∈ vs) (ho : OwnIn ρ' ρ) (hl : ds.length ≤ 99999) : EvZ K (tDc wi g tt tk tv vs) ρ ρ' (.dK out) := fun M G H σ S Q q =>
  dcK_at S (hi M G H σ S) hc hA ho hl Q q
/-- the items ds, one turn behind the other: acc becomes out -/
inductive CompDT (K : PySem.W.Frag) (g : TG) (tt : TT) (tk tv : TE) (vs A : List Nat) : List D → Rho → List (List Key × D) → List (List Key × D) → Rho → Prop
  | nil {ρ : Rho} {acc : List (List Key × D)} : CompDT K g tt tk tv vs A [] ρ acc acc ρ
  | yes {ρ ρ1 ρ2 ρ3 ρ4 ρ5 : Rho} {d r : D} {k : List Key} {ds : List D} {acc out : List (List Key × D)} : TgZ K g A d ρ ρ1 → TsZ K tt ρ1 ρ2 true → EvZ K tk ρ2 ρ3 (D.tup (k.map keyD)) → NotZ k → EvZ K tv ρ3 ρ4 r → CompDT K g tt tk tv vs A ds (wipeR ρ4 vs) (putD acc k r) out ρ5 → CompDT K g tt tk tv vs A (d :: ds) ρ acc out ρ5
structure CWDT (K : PySem.W.Frag) (g : TG) (tt : TT) (tk tv : TE) (vs A : List Nat) (M : MS) (G1 H1 : Hp) (Dl : Addr) (σ : L2.St) (ds : List D) (out : List (List Key × D)) (ρ' : Rho) (i : Nat) (H : Hp) : Prop where
  ex : ∃ G ρi acc vd, Grow (fun a => M a ∨ a = Dl) G1 H1 G H ∧ Sim K (fun a => M a ∧ a ≠ Dl) G H (L2.wipe σ vs) ρi ∧ CompDT K g tt tk tv vs A (ds.drop i) ρi acc out ρ' ∧ acc.length ≤ i ∧ G Dl = none ∧ H Dl = some (.dT vd) ∧ DzT K G vd acc
theorem ev_dcT {wi : TI} {g : TG} {vs A : List Nat} {out : List (List Key × D)} (hi : ItZ K wi ρ ρ1 ds) (hc : CompDT K g tt tk tv vs A ds (wipeR ρ1 vs) [] out ρ') (hA : ∀ i ∈ A, i ∈ vs) (ho : OwnIn ρ' ρ) (hl : ds.length ≤ 99999) : EvZ K (tDcT wi g tt tk tv vs) ρ ρ' (.dT out) := fun M G H σ S Q q =>
  hi M G H σ S _ fun J G1 H1 g1 s1 wk D hD => by
    have hD0 := g1.d D hD
    have s1' : Sim K M G1 H1 (L2.wipe σ vs) (wipeR ρ1 vs) := s1.wipe (wipe_length σ vs) fun i h => wipe_get h
    refine ⟨fun i m Hh => i ≤ ds.length ∧ m = ds.length - i ∧ CWDT K g tt tk tv vs A M G1 H1 D σ ds out ρ' i Hh, ⟨ds.length, Nat.zero_le _, rfl, ⟨G1, wipeR ρ1 vs, [], [], .newO hD, ?_, hc, Nat.le_refl _, fresh_back s1.sub hD, upd_same, .nil⟩⟩, ?_⟩
    · exact (s1'.newO hD).chMo fun p es i e1 e2 => by
        obtain ⟨p', us, e', m, gp, hp, dz⟩ := s1'.mu e1
        rw [e2] at e'
        cases e'
        exact ⟨m, fun z => by subst z; rw [hD] at hp; cases hp⟩
    · rintro i m Hi ⟨hle, rfl, ⟨Gi, ρi, acc, vd, gi, si, ci, hacc, gD, hiD, dD⟩⟩
      obtain ⟨w1, w2⟩ := wk Gi Hi gi.g si.sub
      cases hit : ds[i]? with
      | none =>
        have hge : ds.length ≤ i := List.getElem?_eq_none_iff.mp hit
        have ei : i = ds.length := Nat.le_antisymm hle hge
        subst ei
        refine .inl ⟨w2, ?_⟩
        rw [List.drop_eq_nil_of_le hge] at ci
        cases ci
        have gg : Grow M G1 H1 Gi Hi := gi.wk fun a e z => by
          rcases z with z | z
          · exact z
          · subst z; exact absurd hD e
        have sF : Sim K M Gi Hi σ ρ' := sim_unwipe (si.chM fun a _ z => z.1)
        have eg : Ex Gi (upd Gi D (.dT vd)) := Ex.new gD
        have nw : ∀ (j : Nat) (es : MO), ρ'[j]? = some (.mu es) → σ[j]? ≠ some (some (.ref D)) := fun j es h => by
          obtain ⟨fs, e⟩ := ho j es h
          exact S.noOwn hD0 j fs e
        refine q _ (upd Gi D (.dT vd)) Hi (g1.trans ⟨gg.g.trans eg, gg.k, fun a n e z => ?_, gg.d⟩) (sF.grow (fun a u e => ?_) eg fun q' es j e1 e2 => ?_) (.dT upd_same (dD.mono eg))
        · have n1 : a ≠ D := fun y => by subst y; exact e hD
          rw [upd_ne n1]
          exact gg.n a n e z
        · by_cases y : a = D
          · subst y; rw [upd_same] at e; cases e; exact hiD
          · rw [upd_ne y] at e; exact sF.sub a u e
        · have ne' : q' ≠ D := fun z => by subst z; exact nw j es e1 e2
          obtain ⟨q2, us, e', m, gq, hq, dq⟩ := sF.mu e1
          rw [e2] at e'
          cases e'
          exact ⟨rfl, by rw [upd_ne ne']; exact gq⟩
      | some d =>
        obtain ⟨hlt, ed⟩ := List.getElem?_eq_some_iff.mp hit
        obtain ⟨hgo, hy⟩ := w1 i d hit
        rw [List.drop_eq_getElem_cons hlt, ed] at ci
        refine .inr ⟨hgo, CWDT K g tt tk tv vs A M G1 H1 D σ ds out ρ' (i + 1), fun H' w => ⟨ds.length - (i + 1), by omega, by omega, rfl, w⟩, fun x H' yl => ?_⟩
        obtain ⟨G2, g2, s2, dx⟩ := hy x H' yl
        have S2 : Sim K (fun a => M a ∧ a ≠ D) G2 H' (L2.wipe σ vs) ρi := si.after g2 s2
        have hD2 : H' D = some (.dT vd) := g2.k D _ (fun z => z) hiD
        have gD2 : G2 D = none := g2.n D (fun z => z) (by rw [hiD]; simp) gD
        have gi2 : Grow (fun a => M a ∨ a = D) G1 H1 G2 H' := gi.trans (g2.wk fun a _ z => z.elim)
        cases ci with
        | yes t1 t2 t3 tz t4 t5 =>
          rename_i ρa ρb ρc ρd r k
          refine t1 _ G2 H' _ x S2 dx _ fun σa la ka Sa => ⟨?_, ?_⟩
          · exact (wipe_eq (σ := L2.wipe σ vs) (vs := vs) la fun j hj => ka j fun z => hj (hA j z)).trans (wipe_eq (wipe_length σ vs) fun j hj => wipe_get hj)
          refine t2 _ G2 H' _ Sa _ fun G3 H3 g3 s3 => ?_
          rw [if_pos rfl]
          refine t3 _ G3 H3 _ s3 _ fun u G4 H4 g4 s4 du => t4 _ G4 H4 _ s4 _ fun v G5 H5 g5 s5 dv => ?_
          have gg := (g3.trans g4).trans g5
          have hD5 : H5 D = some (.dT vd) := gg.k D _ (fun z => z.2 rfl) hD2
          have gD5 : G5 D = none := gg.n D (fun z => z.2 rfl) (by rw [hD2]; simp) gD2
          have dd : DzT K G5 (putK vd k v) (putD acc k r) := (dD.mono (g2.g.trans gg.g)).put dv
          have s6 : Sim K (fun a => M a ∧ a ≠ D) G5 (upd H5 D (.dT (putK vd k v))) σa ρd := s5.other gD5 (s5.nin fun z => z.2 rfl)
          have ga := gi2.trans (gg.wk (M' := fun a => M a ∨ a = D) fun a _ z => .inl z.1)
          have nx : CWDT K g tt tk tv vs A M G1 H1 D σ ds out ρ' (i + 1) (upd H5 D (.dT (putK vd k v))) := by
            refine ⟨G5, wipeR ρd vs, putD acc k r, putK vd k v, ⟨ga.g, fun a o m e => ?_, ga.n, fun a e => ga.d a (upd_none e)⟩, s6.wipe (by rw [la, wipe_length]) fun j hj => by rw [ka j fun z => hj (hA j z)], t5, by have := putD_len acc k r; omega, gD5, upd_same, dd⟩
            rw [upd_ne fun z => m (.inr z)]
            exact ga.k a o m e
          have small : vd.length < sizeLine := sz_lt (by rw [dD.len]; omega)
          obtain ⟨b, ws, rfl, hb, hw⟩ := du.tup_at tz.ne
          have ew := keys_of_dz hw
          subst ew
          exact ⟨vd, k, b, rfl, s5.sub _ _ (g5.g _ _ hb), hD5, small, nx⟩
end Z

set_option Elab.async false
set_option linter.all false
set_option maxRecDepth 100000
set_option maxHeartbeats 2000000
/-! ZObj: methods and constructors as relations of cells. -/
namespace Z
open PySem PySem.Spec PyProof.Rows L2
open Evl (Ex Ex.refl Ex.trans Ex.new ex_rd ex_l ex_t sq_of st_of fresh_back sz_of sz_lt)
/-- the method m of the class at C keeps the promise of R -/
structure Zmet (P : Program) (w : World) (K : PySem.W.Frag) (mg : Str → Option Value) (base : Heap) (k : Nat) (C : Addr) (m : Str) (ps : List Str) (R : Rel) : Prop where
  ex : ∃ (f : Addr) (fd : FuncData), FnOk P w K mg base CX0 k f fd ps (SpZ K R) ∧ Meth K C m f ∧ Binds K fd ps [] ∧ ∃ (oc : Value) (od : Option Addr) (osl : Array (Option Value)), K.lookup f = some ⟨oc, od, .func fd, osl⟩
/-- the class x, at C, makes its instances by an __init__ that keeps the promise of R -/
structure Zmak (P : Program) (w : World) (K : PySem.W.Frag) (mg : Str → Option Value) (base : Heap) (k : Nat) (x : Str) (C : Addr) (ps : List Str) (R : Rel) : Prop where
  ex : ∃ (f : Addr) (fd : FuncData), FnOk P w K mg base CX0 k f fd ps (SpZ K R) ∧ Mk K C f ∧ mg x = some (.ref C) ∧ Binds K fd ps []
section
variable {P : Program} {w : World} {K : PySem.W.Frag} {mg : Str → Option Value} {base : Heap} {x m qual : Str} {st : Stmt} {f C : Addr} {fd : FuncData} {N ps : List Str} {k n l : Nat} {t : TS} {S : List Nat}
end
section
variable {X : Cx} {k j : Nat} {x m : Str} {C : Addr} {ps : List Str} {R : Rel} {o e : Expr} {es : List Expr} {p pos apos : Pos} {to : TE} {t : TA}
end
/-! ### reversed -/
variable {K : PySem.W.Frag} {ρ ρ' : Rho} {te : TE} {ds : List D}
end Z

set_option Elab.async false
set_option linter.all false
set_option maxRecDepth 100000
set_option maxHeartbeats 2000000
/-! ZItem: for x in xs where xs is now a list, now a tuple; sorted texts; min, max. -/
namespace L2
open PySem PySem.Spec PyProof.Rows
def iSeq (K : PySem.W.Frag) (tl : TE) : TI := fun σ H R => tl σ H fun x H1 => ∃ a, x = .ref a ∧ (((∃ xs, SqL K H1 a xs) ∧ R (Itl K a) H1) ∨ ((∃ xs, SqT K H1 a xs) ∧ R (Itt K a) H1))
theorem pi_seq {X : Cx} {tg l : Expr} {tl : TE} (hl : PE X l tl) : PI X tg l (iSeq X.K tl) := by
  refine ⟨fun pins s σ H R I h => ?_⟩
  refine thn (hl.run pins s σ H _ I h) fun v s1 ⟨x, H1, I1, r1, q1⟩ => ?_
  obtain ⟨a, e, q1⟩ := q1
  subst e
  cases r1
  rcases q1 with ⟨⟨xs, hq⟩, q⟩ | ⟨⟨xs, hq⟩, q⟩
  · obtain ⟨its, rv, p, hz⟩ := I1.list hq
    refine wpAny_pyIter_list p.isList ?_
    refine ⟨s1.heap.objs.size, [s1.heap.objs.size], _, _, H1, rfl, I1.kept (t' := s1.toks) fun b o e => Heap.get?_push_of_some _ e, turn_list a _, ⟨_, Heap.get?_push_size _ rfl, rfl, rfl⟩, fun b hb => ?_, q⟩
    have e : b = s1.heap.objs.size := by simpa using hb
    subst e
    exact I1.fpOk (Nat.le_refl _) (I1.hok.fresh (Nat.le_refl _))
  · obtain ⟨its, rv, p, hz⟩ := I1.tuple hq
    refine wpAny_pyIter_tuple (show s1.heap.IsTuple a its.toArray from p) ?_
    refine ⟨s1.heap.objs.size, [s1.heap.objs.size], _, _, H1, rfl, I1.kept (t' := s1.toks) fun b o e => Heap.get?_push_of_some _ e, turn_tuple a _, ⟨_, Heap.get?_push_size _ rfl, rfl, rfl⟩, fun b hb => ?_, q⟩
    have e : b = s1.heap.objs.size := by simpa using hb
    subst e
    exact I1.fpOk (Nat.le_refl _) (I1.hok.fresh (Nat.le_refl _))
end L2
namespace Z
open PySem PySem.Spec PyProof.Rows L2
open Evl (Ex Ex.refl Ex.trans Ex.new ex_rd ex_l ex_t sq_of st_of fresh_back sz_of sz_lt)
variable {K : PySem.W.Frag} {ρ ρ' ρ1 ρ2 : Rho} {te ta tb tl : TE} {ds : List D}
theorem it_seqL (h : EvZ K tl ρ ρ' (.lst ds)) : ItZ K (iSeq K tl) ρ ρ' ds := fun M G H σ S R q => h M G H σ S _ fun v G1 H1 g1 s1 dv => by
  obtain ⟨a, vs, e, hs, hz⟩ := dv.lst_inv
  exact ⟨a, e, .inl ⟨⟨vs, ex_l s1.sub hs⟩, q _ G1 H1 g1 s1 (walks_list hs hz)⟩⟩
theorem it_seqT (h : EvZ K tl ρ ρ' (.tup ds)) : ItZ K (iSeq K tl) ρ ρ' ds := fun M G H σ S R q => h M G H σ S _ fun v G1 H1 g1 s1 dv => by
  obtain ⟨a, vs, e, hs, hz⟩ := dv.tup_inv
  exact ⟨a, e, .inr ⟨⟨vs, ex_t s1.sub hs⟩, q _ G1 H1 g1 s1 (walks_tup hs hz)⟩⟩
/-- sorted(xs), texts; with what is known of every such answer -/
theorem en_sortedS {zs : List Str} (h : RdZ K te ρ ρ1 (.lst (zs.map D.str))) (hl : zs.length < 64) : ∀ (M : MS) G H σ, Sim K M G H σ ρ → ∀ Q : VK, (∀ p ys G' H', ys.Perm zs → sortedS ys = true → Grow M G H G' H' → Sim K M G' H' σ ρ1 → H p = none → G' p = none → H' p = some (.lst (ys.map V.str)) → Dzs K G' (ys.map V.str) (ys.map D.str) → Q (.ref p) H') → tCB (rSortedS K) (tCons te tNil) σ H Q := fun M G H σ S Q q =>
  h M G H σ S _ fun v G1 H1 g1 s1 dv => by
    obtain ⟨a, us, rfl, hs, hz⟩ := dv.lst_inv
    have e := hz.strs
    subst e
    exact ⟨a, zs, rfl, hs, hl, fun ys p hp hso hn => q p ys G1 _ hp hso (g1.trans (.newO hn)) (s1.newO hn) (g1.d p hn) (fresh_back s1.sub hn) upd_same (dzs_strs _)⟩
theorem ev_min2 {i j : Int} (ha : EvZ K ta ρ ρ1 (.int i)) (hb : EvZ K tb ρ1 ρ2 (.int j)) : EvZ K (tCB (fun xs H Q => ∃ i j, xs = [.int i, .int j] ∧ Q (.int (if j < i then j else i)) H) (tCons ta (tCons tb tNil))) ρ ρ2 (.int (min i j)) := fun M G H σ S Q q =>
  ha M G H σ S _ fun u G1 H1 g1 s1 du => hb M G1 H1 σ s1 _ fun v G2 H2 g2 s2 dv => ⟨i, j, by rw [du.int_inv, dv.int_inv], by
    have e : (if j < i then j else i) = min i j := by split <;> omega
    rw [e]
    exact q _ G2 H2 (g1.trans g2) s2 (.int _)⟩
/-- a relation of cells, that stands for more than one answer: a step with one of them known -/
theorem Sim.forget {M : MS} {G H : Hp} {σ : L2.St} (S : Sim K M G H σ ρ) (hl : ρ'.length = ρ.length) (h : ∀ (i : Nat) (c : Cell), ρ'[i]? = some c → c = .no ∨ ρ[i]? = some c) : Sim K M G H σ ρ' where
  len := by rw [hl]; exact S.len
  sub := S.sub
  fr := fun {i d} e => by
    rcases h i _ e with z | z
    · cases z
    · exact S.fr z
  mu := fun {i m} e => by
    rcases h i _ e with z | z
    · cases z
    · exact S.mu z
  apart := fun {i j m n p} ne e1 e2 e3 => by
    rcases h i _ e1 with z | z
    · cases z
    rcases h j _ e2 with y | y
    · cases y
    exact S.apart ne z y e3
end Z

set_option Elab.async false
set_option linter.all false
set_option maxRecDepth 100000
set_option maxHeartbeats 2000000
/-! SpR: readings of the program's own defs. -/
namespace Z
open PySem PySem.Spec PyProof.Rows L2
abbrev rMin2 : List V → Hp → VK → Prop := fun xs H Q => ∃ i j, xs = [.int i, .int j] ∧ Q (.int (if j < i then j else i)) H
def t_words_of (K : PySem.W.Frag) : TS :=
  (tRet (tIf (tTruth K (tVar 0)) (tM1 rSplit (tVar 0) (tC (.str "/"))) (tLst tNil)))

def t_start_of (K : PySem.W.Frag) (R_words_of : Rel) : TS :=
  (tRet (tM1 (rJoin K) (tC (.str "/")) (tSl (rSlL K) (tCall (SpZ K R_words_of) [] E0 (tCons (tVar 0) tNil)) tNoPart (tPart (tVar 1)))))

def e_choices_1 (K : PySem.W.Frag) : TE :=
  (tTup (StX.tStar K (tVar 3) (tCons (tVar 4) tNil)))
def b_choices_2 (K : PySem.W.Frag) : TS :=
  (tAsg (tLc2 (iList K (tVar 1)) (gName 3) tYes (iSeq K (tVar 2)) (gName 4) tYes (e_choices_1 K) [3, 4] [4]) (gName 1))
def t_choices (K : PySem.W.Frag) : TS :=
  (tSeq (tAsg (tLst (tCons (tTup tNil) tNil)) (gName 1))
      (tSeq (tFor (iList K (tVar 0)) (gName 2) (b_choices_2 K))
      (tRet (tVar 1))))

def e__is_dimension_1 (K : PySem.W.Frag) (R__is_leaf : Rel) (R_is_word : Rel) (R_words_of : Rel) (c_DEEPEST : V) (c_FEWEST_LEAVES : V) (c_MOST_LEAVES : V) : TE :=
  (tOp rLtS (tVar 4) (tVar 5))
def e__is_dimension_2 (K : PySem.W.Frag) (R__is_leaf : Rel) (R_is_word : Rel) (R_words_of : Rel) (c_DEEPEST : V) (c_FEWEST_LEAVES : V) (c_MOST_LEAVES : V) : TE :=
  (tCall (SpZ K R__is_leaf) [] E0 (tCons (tVar 3) (tCons (tVar 2) tNil)))
def t__is_dimension (K : PySem.W.Frag) (R__is_leaf : Rel) (R_is_word : Rel) (R_words_of : Rel) (c_DEEPEST : V) (c_FEWEST_LEAVES : V) (c_MOST_LEAVES : V) : TS :=
  (tSeq (tIfS (tOr (tNot (tB (tCall (SpZ K R_is_word) [] E0 (tCons (tVar 0) tNil)))) (tNot (tTest (tChain rLeI rLeI (tC c_FEWEST_LEAVES) (tCB (rLenX K) (tCons (tVar 1) tNil)) (tC c_MOST_LEAVES))))) (tRet (tC (.bl false))) tNext)
      (tSeq (tAsg (tCB (rLenX K) (tCons (tCall (SpZ K R_words_of) [] E0 (tCons (tOp (rIx K) (tVar 1) (tC (.int 0))) tNil)) tNil)) (gName 2))
      (tSeq (tIfS (tNot (tTest (tChain rLeI rLeI (tC (.int 1)) (tVar 2) (tC c_DEEPEST)))) (tRet (tC (.bl false))) tNext)
      (tSeq (tIfS (tNot (tB (tCB (rAll K) (tCons (tLc (iTup K (tVar 1)) (gName 3) tYes (e__is_dimension_2 K R__is_leaf R_is_word R_words_of c_DEEPEST c_FEWEST_LEAVES c_MOST_LEAVES) [3]) tNil)))) (tRet (tC (.bl false))) tNext)
      (tRet (tCB (rAll K) (tCons (tLc (RZ.iZipA K (tCons (tVar 1) (tCons (tSl (rSlT K) (tVar 1) (tPart (tC (.int 1))) tNoPart) tNil))) (gTup K 2 (gCons (gName 4) (gCons (gName 5) gNil))) tYes (e__is_dimension_1 K R__is_leaf R_is_word R_words_of c_DEEPEST c_FEWEST_LEAVES c_MOST_LEAVES) [4, 5]) tNil)))))))

def e__is_leaf_1 (K : PySem.W.Frag) (R_is_word : Rel) (R_words_of : Rel) : TE :=
  (tCall (SpZ K R_is_word) [] E0 (tCons (tVar 3) tNil))
def t__is_leaf (K : PySem.W.Frag) (R_is_word : Rel) (R_words_of : Rel) : TS :=
  (tSeq (tAsg (tCall (SpZ K R_words_of) [] E0 (tCons (tVar 0) tNil)) (gName 2))
      (tRet (tAndV (tOp rEq (tCB (rLenX K) (tCons (tVar 2) tNil)) (tVar 1)) (tCB (rAll K) (tCons (tLc (iList K (tVar 2)) (gName 3) tYes (e__is_leaf_1 K R_is_word R_words_of) [3]) tNil)))))

def k__members_by_level_1 (K : PySem.W.Frag) (R_start_of : Rel) (R_words_of : Rel) : TE :=
  (tCall (SpZ K R_start_of) [] E0 (tCons (tVar 4) (tCons (tVar 2) tNil)))
def v__members_by_level_1 (K : PySem.W.Frag) (R_start_of : Rel) (R_words_of : Rel) : TE :=
  (tC (.bl true))
def b__members_by_level_2 (K : PySem.W.Frag) (R_start_of : Rel) (R_words_of : Rel) : TS :=
  (tSeq (tAsg (tDc (iTup K (tVar 0)) (gName 4) tYes (k__members_by_level_1 K R_start_of R_words_of) (v__members_by_level_1 K R_start_of R_words_of) [4]) (gName 3))
      (tDrop (tBM K "list" rAppend (tVar 1) (tCons (tCB rTupD (tCons (tVar 3) tNil)) tNil))))
def t__members_by_level (K : PySem.W.Frag) (R_start_of : Rel) (R_words_of : Rel) : TS :=
  (tSeq (tAsg (tLst tNil) (gName 1))
      (tSeq (tFor (iRng1 (tCons (tOp rAddI (tCB (rLenX K) (tCons (tCall (SpZ K R_words_of) [] E0 (tCons (tOp (rIx K) (tVar 0) (tC (.int 0))) tNil)) tNil)) (tC (.int 1))) tNil)) (gName 2) (b__members_by_level_2 K R_start_of R_words_of))
      (tRet (tVar 1))))

def k__leaves_by_member_1 (K : PySem.W.Frag) (R_start_of : Rel) (R_words_of : Rel) : TE :=
  (tVar 5)
def v__leaves_by_member_1 (K : PySem.W.Frag) (R_start_of : Rel) (R_words_of : Rel) : TE :=
  (tCB (rTupOf K) (tCons (tVar 6) tNil))
def b__leaves_by_member_2 (K : PySem.W.Frag) (R_start_of : Rel) (R_words_of : Rel) : TS :=
  (tDrop (tBM K "list" rAppend (tDSetd (tVar 1) (tCall (SpZ K R_start_of) [] E0 (tCons (tVar 3) (tCons (tVar 4) tNil))) (tLst tNil)) (tCons (tVar 2) tNil)))
def b__leaves_by_member_3 (K : PySem.W.Frag) (R_start_of : Rel) (R_words_of : Rel) : TS :=
  (tFor (iRng1 (tCons (tOp rAddI (tCB (rLenX K) (tCons (tCall (SpZ K R_words_of) [] E0 (tCons (tVar 3) tNil)) tNil)) (tC (.int 1))) tNil)) (gName 4) (b__leaves_by_member_2 K R_start_of R_words_of))
def t__leaves_by_member (K : PySem.W.Frag) (R_start_of : Rel) (R_words_of : Rel) : TS :=
  (tSeq (tAsg tDNewK (gName 1))
      (tSeq (tFor (iEnumT K (tCons (tVar 0) tNil)) (gTup K 2 (gCons (gName 2) (gCons (gName 3) gNil))) (b__leaves_by_member_3 K R_start_of R_words_of))
      (tRet (tLockE (tDc (iItems (tVar 1)) (gTup K 2 (gCons (gName 5) (gCons (gName 6) gNil))) tYes (k__leaves_by_member_1 K R_start_of R_words_of) (v__leaves_by_member_1 K R_start_of R_words_of) [5, 6])))))

def k_Space___init___1 (K : PySem.W.Frag) (R__leaves_by_member : Rel) (R__members_by_level : Rel) (R_check_dimensions : Rel) (R_choices : Rel) : TE :=
  (tVar 3)
def v_Space___init___1 (K : PySem.W.Frag) (R__leaves_by_member : Rel) (R__members_by_level : Rel) (R_check_dimensions : Rel) (R_choices : Rel) : TE :=
  (tVar 4)
end Z

set_option Elab.async false
set_option linter.all false
set_option maxRecDepth 100000
set_option maxHeartbeats 2000000
/-! SpA: paths and their words; words_of, start_of. -/
namespace Z
open PySem PySem.Spec PyProof.Rows L2
open Evl (Ex Ex.refl Ex.trans Ex.new ex_rd ex_l ex_t sq_of st_of fresh_back sz_of sz_lt)
def slS : Str := "/"
def pathS (ws : List Str) : Str := Txt.join slS ws
def GoodW (ws : List Str) : Prop := ∀ w ∈ ws, wordB w = true
def wordsS (z : Str) : List Str := if (z.length : Int) != 0 then Txt.split z slS else []
theorem word_len {w : Str} (h : wordB w = true) : 1 ≤ w.length ∧ w.length ≤ 8 := by
  unfold wordB at h
  rw [Bool.and_eq_true, Bool.and_eq_true, Bool.and_eq_true] at h
  have h1 := of_decide_eq_true h.1.2.1
  have h2 := of_decide_eq_true h.1.2.2
  omega
theorem word_letters {w : Str} (h : wordB w = true) : ∀ c ∈ w.cps.toList, c ∈ letS.cps.toList := by
  unfold wordB at h
  rw [Bool.and_eq_true] at h
  have h1 := h.2
  unfold lettersB at h1
  rw [List.all_eq_true] at h1
  intro c hc
  exact of_decide_eq_true (h1 _ (List.mem_map_of_mem hc))
theorem sl_not : ¬ (47 ∈ letS.cps.toList) := by decide +kernel
theorem word_sl {w : Str} (h : wordB w = true) : 47 ∉ TL.tl w := fun z => sl_not (word_letters h 47 z)
theorem len_tl (w : Str) : (TL.tl w).length = w.length := by
  show w.cps.toList.length = w.length
  simp [Str.length]
theorem path_len : ∀ {ws : List Str}, GoodW ws → (pathS ws).length ≤ 9 * ws.length := fun {ws} h => by
  show (Txt.join slS ws).length ≤ _
  rw [TL.join_eq]
  refine Nat.le_trans (StrLaws.join_length_le slS ws) ?_
  have e : slS.length = 1 := by decide +kernel
  rw [e]
  have : (ws.map (·.length)).sum ≤ 8 * ws.length := by
    induction ws with
    | nil => exact Nat.le_refl _
    | cons w ws ih =>
      rw [List.map_cons, List.sum_cons, List.length_cons]
      have := ih fun x hx => h x (List.mem_cons_of_mem _ hx)
      have := (word_len (h w List.mem_cons_self)).2
      omega
  omega
theorem path_nil : pathS [] = "" := by decide +kernel
theorem path_pos {w : Str} {ws : List Str} (h : GoodW (w :: ws)) : 1 ≤ (pathS (w :: ws)).length := by
  show 1 ≤ (Txt.join slS (w :: ws)).length
  rw [TL.join_eq]
  have h1 := (word_len (h w List.mem_cons_self)).1
  cases ws with
  | nil => exact h1
  | cons y ws =>
    show 1 ≤ (w ++ slS ++ Str.join slS (y :: ws)).length
    rw [len_cat, len_cat]
    omega
theorem words_path {ws : List Str} (h : GoodW ws) : wordsS (pathS ws) = ws := by
  cases ws with
  | nil => rw [path_nil]; rfl
  | cons w ws =>
    have hp := path_pos h
    unfold wordsS
    rw [if_pos (by simp; omega)]
    exact TL.split_join (s := 47) (S := []) (by decide +kernel) (by decide +kernel) (by simp) fun p hp => word_sl (h p hp)
theorem path_inj {ws us : List Str} (h : GoodW ws) (k : GoodW us) (e : pathS ws = pathS us) : ws = us := by
  rw [← words_path h, ← words_path k, e]
theorem GoodW.take {ws : List Str} (h : GoodW ws) (n : Nat) : GoodW (ws.take n) := fun w hw => h w (List.mem_of_mem_take hw)
section
variable {K : PySem.W.Frag} {ρ ρ1 : Rho} {ta : TE}
theorem ts_truS {z : Str} (ha : EvZ K ta ρ ρ1 (.str z)) (hl : z.length ≤ 90000) : TsZ K (tTruth K ta) ρ ρ1 ((z.length : Int) != 0) := fun M G H σ S Q q =>
  ha M G H σ S _ fun v G1 H1 g1 s1 dv => ⟨_, by rw [dv.str_inv]; exact ⟨sz_of (by omega), rfl⟩, q G1 H1 g1 s1⟩
theorem ts_truB {b : Bool} (ha : EvZ K ta ρ ρ1 (.bl b)) : TsZ K (tTruth K ta) ρ ρ1 b := fun M G H σ S Q q =>
  ha M G H σ S _ fun v G1 H1 g1 s1 dv => ⟨_, by rw [dv.bl_inv]; exact rfl, q G1 H1 g1 s1⟩
theorem en_if {tt : TT} {tb : TE} {b : Bool} {ds : List D} {ρ2 : Rho} (h : TsZ K tt ρ ρ1 b) (ha : b = true → EvN K ta ρ1 ρ2 ds) (hb : b = false → EvN K tb ρ1 ρ2 ds) : EvN K (tIf tt ta tb) ρ ρ2 ds := fun M G H σ S Q q => h M G H σ S _ fun G1 H1 g1 s1 => by
  cases b with
  | true => exact ha rfl M G1 H1 σ s1 Q fun p vs G2 H2 g2 s2 hp gp => q p vs G2 H2 (g1.trans g2) s2 (g1.d p hp) gp
  | false => exact hb rfl M G1 H1 σ s1 Q fun p vs G2 H2 g2 s2 hp gp => q p vs G2 H2 (g1.trans g2) s2 (g1.d p hp) gp
/-! ### words_of, start_of -/
def PreWo (cs : List Cell) : Prop := ∃ z : Str, cs = [.fr (.str z)] ∧ z.length ≤ 80000
def PostWo (cs : List Cell) (r : Cell) (cs' : List Cell) : Prop := cs' = cs ∧ ∀ z, cs = [.fr (.str z)] → r = .own ((wordsS z).map .str)
theorem sem_words_of : Spec (RelOf K [] (t_words_of K) 1 1) PreWo PostWo := by
  rintro _ ⟨z, rfl, hz⟩
  have key : ExZ K [] (t_words_of K) [.fr (.str z)] (.rt [.fr (.str z)] (.own ((wordsS z).map .str))) := by
    refine ex_retN (en_if (ρ2 := [.fr (.str z)]) (ts_truS (ev_var (i := 0) rfl) (by omega)) (fun h => ?_) fun h => ?_)
    · unfold wordsS
      rw [if_pos h]
      exact en_split (ev_var rfl) ev_str (by decide +kernel) (by omega)
    · unfold wordsS
      rw [if_neg (by rw [h]; simp)]
      exact en_lst ag_nil (by decide)
  exact ⟨_, _, ⟨rfl, _, .inl key, fin_fr (ds := [.str z])⟩, rfl, fun z' e => by cases e; rfl⟩
/-- words_of(path) of a good path -/
theorem en_words {R : Rel} (hR : Spec R PreWo PostWo) {ws : List Str} (hw : GoodW ws) (hl : ws.length ≤ 100) (h : EvZ K ta ρ ρ1 (.str (pathS ws))) : EvN K (tCall (SpZ K R) [] E0 (tCons ta tNil)) ρ ρ1 (ws.map .str) := by
  have hl' := path_len hw
  obtain ⟨r, cs', h1, rfl, h2⟩ := hR _ ⟨pathS ws, rfl, by omega⟩
  obtain rfl := h2 _ rfl
  rw [words_path hw] at h1
  exact en_callF (ds := [.str (pathS ws)]) (ag_cons h ag_nil) h1
def PreSt (cs : List Cell) : Prop := ∃ (ws : List Str) (n : Nat), cs = [.fr (.str (pathS ws)), .fr (.int (n : Int))] ∧ GoodW ws ∧ ws.length ≤ 100
def PostSt (cs : List Cell) (r : Cell) (cs' : List Cell) : Prop := cs' = cs ∧ ∀ (ws : List Str) (n : Nat), GoodW ws → cs = [.fr (.str (pathS ws)), .fr (.int (n : Int))] → r = .fr (.str (pathS (ws.take n)))
theorem map_cut {α : Type} (f : α → D) (xs : List α) (n : Nat) : cutD (xs.map f) none (some (n : Int)) = (xs.take n).map f := by
  unfold cutD
  have e0 : ∀ m, HT.sIx m 0 none = 0 := fun m => rfl
  rw [e0, List.drop_zero, Nat.sub_zero, List.length_map, ← List.map_take]
  have e1 : HT.sIx xs.length xs.length (some (n : Int)) = min n xs.length := by
    unfold HT.sIx
    simp
    try omega
  rw [e1]
  congr 1
  apply List.ext_getElem?
  intro i
  rw [List.getElem?_take, List.getElem?_take]
  by_cases h : i < n
  · by_cases h2 : i < xs.length
    · rw [if_pos (by omega), if_pos h]
    · rw [if_neg (by omega), if_pos h, List.getElem?_eq_none (by omega)]
  · rw [if_neg (by omega), if_neg h]
theorem sem_start_of {Rw : Rel} (hw : Spec Rw PreWo PostWo) : Spec (RelOf K [] (t_start_of K Rw) 2 2) PreSt PostSt := by
  rintro _ ⟨ws, n, rfl, hg, hl⟩
  have h := en_words (K := K) (ρ := [.fr (.str (pathS ws)), .fr (.int (n : Int))]) hw hg hl (ev_var (i := 0) rfl)
  have key : ExZ K [] (t_start_of K Rw) [.fr (.str (pathS ws)), .fr (.int (n : Int))] (.rt [.fr (.str (pathS ws)), .fr (.int (n : Int))] (.fr (.str (pathS (ws.take n))))) := by
    refine ex_ret (ev_join (a := slS) ev_str (EvN.rd ?_) ?_)
    · have q := en_slZ (h.ev OwnIn.refl) poz_none (poz_some (ev_var (i := 1) rfl))
      rw [map_cut] at q
      exact q
    · have q : ((ws.take n).map (·.length)).sum ≤ 8 * (ws.take n).length := by
        have gw := hg.take n
        generalize ws.take n = us at gw
        induction us with
        | nil => exact Nat.le_refl _
        | cons w us ih =>
          rw [List.map_cons, List.sum_cons, List.length_cons]
          have := ih fun x hx => gw x (List.mem_cons_of_mem _ hx)
          have := (word_len (gw w List.mem_cons_self)).2
          omega
      have e : slS.length = 1 := by decide +kernel
      rw [e]
      have := List.length_take_le n ws
      have := List.length_take_le' n ws
      omega
  refine ⟨_, _, ⟨rfl, _, .inl key, fin_fr (ds := [.str (pathS ws), .int (n : Int)])⟩, rfl, fun ws' n' hg' e => ?_⟩
  injection e with e1 e2
  injection e1 with e1
  injection e1 with e1
  injection e2 with e2
  injection e2 with e2
  injection e2 with e2
  have ew := path_inj hg hg' e1
  have en : n = n' := by omega
  rw [ew, en]
/-- start_of(path, n) of a good path -/
theorem ev_start {R : Rel} (hR : Spec R PreSt PostSt) {tb : TE} {ws : List Str} {n : Nat} {ρ2 : Rho} (hw : GoodW ws) (hl : ws.length ≤ 100) (h : EvZ K ta ρ ρ1 (.str (pathS ws))) (h2 : EvZ K tb ρ1 ρ2 (.int (n : Int))) : EvZ K (tCall (SpZ K R) [] E0 (tCons ta (tCons tb tNil))) ρ ρ2 (.str (pathS (ws.take n))) := by
  obtain ⟨r, cs', h1, rfl, h3⟩ := hR _ ⟨ws, n, rfl, hw, hl⟩
  obtain rfl := h3 _ _ hw rfl
  exact ev_callF (ds := [.str (pathS ws), .int (n : Int)]) (ag_cons h (ag_cons h2 ag_nil)) h1
end
end Z

set_option Elab.async false
set_option linter.all false
set_option maxRecDepth 100000
set_option maxHeartbeats 2000000
/-! ZLk: a dict whose values are lists that the frame alone changes: d.setdefault(k, []).append(n) in loops, and {k: tuple(v) for k, v in d.items()} at the end. -/
namespace Z
open PySem PySem.Spec PyProof.Rows L2
open Evl (Ex Ex.refl Ex.trans Ex.new ex_rd ex_l ex_t sq_of st_of fresh_back sz_of sz_lt)
variable {K : PySem.W.Frag} {ρ ρ' ρ1 ρ2 : Rho} {te ta tb tl tk tv : TE} {ds : List D}
/-! ### a heap without one place -/
def del (H : Hp) (p : Addr) : Hp := fun a => if a = p then none else H a
theorem del_ne {H : Hp} {p a : Addr} (h : a ≠ p) : del H p a = H a := by unfold del; rw [if_neg h]
theorem del_same {H : Hp} {p : Addr} : del H p p = none := by unfold del; rw [if_pos rfl]
theorem del_keep {H : Hp} {p a : Addr} {u o : HO} (hp : H p = some u) (h : H a = some o) (ne : o ≠ u) : del H p a = some o := by
  rw [del_ne fun z => by subst z; rw [hp] at h; cases h; exact ne rfl]
  exact h
theorem del_l {H : Hp} {p a : Addr} {o : Obj} {kvs : List (Key × V)} {xs : List V} (hp : H p = some (.frz o (.dK kvs))) (h : SqL K H a xs) : SqL K (del H p) a xs := by
  rcases h with (h | ⟨o', h⟩) | h
  · exact .inl (.inl (del_keep hp h (by simp)))
  · exact .inl (.inr ⟨o', del_keep hp h (by simp)⟩)
  · exact .inr h
section
variable {H : Hp} {p : Addr} {o : Obj} {kvs : List (Key × V)}
mutual
theorem Dz.del (hp : H p = some (.frz o (.dK kvs))) : ∀ {v : V} {d : D}, Dz K H v d → Dz K (del H p) v d
  | _, _, .non => .non
  | _, _, .bl b => .bl b
  | _, _, .int i => .int i
  | _, _, .str x => .str x
  | _, _, .lst h hs => .lst (del_l hp h) (Dzs.del hp hs)
  | _, _, .tup h hs => .tup (del_keep hp h (by simp)) (Dzs.del hp hs)
  | _, _, .zt h => .zt h
  | _, _, .dK h hs => .dK (del_keep hp h (by simp)) (DzP.del hp hs)
  | _, _, .dT h hs => .dT (del_keep hp h (by simp)) (DzT.del hp hs)
  | _, _, .ins h hs => .ins (del_keep hp h (by simp)) (DzF.del hp hs)
  | _, _, .rng h => .rng (del_keep hp h (by simp))
  | _, _, .ft h hd hs => .ft (del_keep hp h (by simp)) hd (Dzs.del hp hs)
  | _, _, .tupf h hc hn hd hs => .tupf (del_keep hp h (by simp)) hc hn hd (Dzs.del hp hs)
theorem Dzs.del (hp : H p = some (.frz o (.dK kvs))) : ∀ {xs : List V} {ds : List D}, Dzs K H xs ds → Dzs K (del H p) xs ds
  | _, _, .nil => .nil
  | _, _, .cons h hs => .cons (Dz.del hp h) (Dzs.del hp hs)
theorem DzP.del (hp : H p = some (.frz o (.dK kvs))) : ∀ {xs : List (Key × V)} {ds : List (Key × D)}, DzP K H xs ds → DzP K (del H p) xs ds
  | _, _, .nil => .nil
  | _, _, .cons h hs => .cons (Dz.del hp h) (DzP.del hp hs)
theorem DzT.del (hp : H p = some (.frz o (.dK kvs))) : ∀ {xs : List (List Key × V)} {ds : List (List Key × D)}, DzT K H xs ds → DzT K (del H p) xs ds
  | _, _, .nil => .nil
  | _, _, .cons h hs => .cons (Dz.del hp h) (DzT.del hp hs)
theorem DzF.del (hp : H p = some (.frz o (.dK kvs))) : ∀ {xs : List (Str × V)} {ds : List (Str × D)}, DzF K H xs ds → DzF K (del H p) xs ds
  | _, _, .nil => .nil
  | _, _, .cons h hs => .cons (Dz.del hp h) (DzF.del hp hs)
end
end
/-! ### the world: a dict at d, a list at f k for each key k -/
abbrev KD := List (Str × List Int)
def putI (kds : KD) (k : Str) (n : Int) : KD := if k ∈ kds.map (·.1) then kds.map fun p => if p.1 = k then (p.1, p.2 ++ [n]) else p else kds ++ [(k, [n])]
def kvF (f : Str → Addr) (kds : KD) : List (Key × V) := kds.map fun p => (.inr p.1, .ref (f p.1))
structure FW (d : Addr) (f : Str → Addr) (M : MS) (G H : Hp) (kds : KD) : Prop where
  md : M d
  gd : G d = none
  hd : H d = some (.dK (kvF f kds))
  at_ : ∀ p ∈ kds, M (f p.1) ∧ G (f p.1) = none ∧ f p.1 ≠ d ∧ H (f p.1) = some (.lst (p.2.map V.int))
  inj : ∀ p ∈ kds, ∀ q ∈ kds, f p.1 = f q.1 → p.1 = q.1
  nd : (kds.map (·.1)).Nodup
  len : kds.length ≤ 4000 ∧ ∀ p ∈ kds, p.2.length ≤ 4000
/-- the addresses of the world -/
def inW (d : Addr) (f : Str → Addr) (kds : KD) (a : Addr) : Prop := a = d ∨ ∃ p ∈ kds, a = f p.1
def offW (M : MS) (d : Addr) (f : Str → Addr) (kds : KD) : MS := fun a => M a ∧ ¬ inW d f kds a
def NoMu (ρ : Rho) : Prop := ∀ (i : Nat) (m : MO), ρ[i]? ≠ some (.mu m)
section
variable {d : Addr} {f : Str → Addr} {M : MS} {G H G' H' : Hp} {kds : KD} {σ : L2.St}
theorem FW.ne (w : FW d f M G H kds) {a : Addr} (h : inW d f kds a) : H a ≠ none := by
  rcases h with rfl | ⟨p, hp, rfl⟩
  · rw [w.hd]; simp
  · rw [(w.at_ p hp).2.2.2]; simp
theorem FW.g0 (w : FW d f M G H kds) {a : Addr} (h : inW d f kds a) : G a = none := by
  rcases h with rfl | ⟨p, hp, rfl⟩
  · exact w.gd
  · exact (w.at_ p hp).2.1
theorem FW.grow (w : FW d f M G H kds) {M' : MS} (hM : ∀ a, inW d f kds a → ¬ M' a) (g : Grow M' G H G' H') : FW d f M G' H' kds where
  md := w.md
  gd := g.n d (hM d (.inl rfl)) (w.ne (.inl rfl)) w.gd
  hd := g.k d _ (hM d (.inl rfl)) w.hd
  at_ := fun p hp => by
    obtain ⟨h1, h2, h3, h4⟩ := w.at_ p hp
    have ip : inW d f kds (f p.1) := .inr ⟨p, hp, rfl⟩
    exact ⟨h1, g.n _ (hM _ ip) (w.ne ip) h2, h3, g.k _ _ (hM _ ip) h4⟩
  inj := w.inj
  nd := w.nd
  len := w.len
theorem off_not {M : MS} {d : Addr} {f : Str → Addr} {kds : KD} : ∀ a, inW d f kds a → ¬ offW M d f kds a := fun _ h z => z.2 h
theorem Sim.noMu (S : Sim K M G H σ ρ) (hn : NoMu ρ) (M' : MS) : Sim K M' G H σ ρ := S.chMo fun p m i e _ => absurd e (hn i m)
theorem Grow.off (g : Grow (offW M d f kds) G H G' H') : Grow M G H G' H' := g.wk fun _ _ z => z.1
theorem fw_ev {x : D} (he : EvZ K te ρ ρ1 x) (S : Sim K M G H σ ρ) (hn : NoMu ρ) (hn1 : NoMu ρ1) (w : FW d f M G H kds) (Q : VK) (q : ∀ v G' H', Grow (offW M d f kds) G H G' H' → Sim K M G' H' σ ρ1 → FW d f M G' H' kds → Dz K G' v x → Q v H') : te σ H Q :=
  he (offW M d f kds) G H σ (S.noMu hn _) Q fun v G' H' g s dz => q v G' H' g (s.noMu hn1 _) (w.grow off_not g) dz
theorem fw_it {wi : TI} (hi : ItZ K wi ρ ρ1 ds) (S : Sim K M G H σ ρ) (hn : NoMu ρ) (hn1 : NoMu ρ1) (w : FW d f M G H kds) (R : It → Hp → Prop) (q : ∀ J G' H', Grow (offW M d f kds) G H G' H' → Sim K M G' H' σ ρ1 → FW d f M G' H' kds → Walks K G' J ds → R J H') : wi σ H R :=
  hi (offW M d f kds) G H σ (S.noMu hn _) R fun J G' H' g s wk => q J G' H' g (s.noMu hn1 _) (w.grow off_not g) wk
/-- a list of the world gets one more -/
theorem FW.snoc (w : FW d f M G H kds) {k : Str} {n : Int} {ns : List Int} (hk : k ∈ kds.map (·.1)) (hf : H (f k) = some (.lst (ns.map V.int))) (hl : ∀ p ∈ kds, p.2.length < 4000) : FW d f M G (upd H (f k) (.lst (ns.map V.int ++ [.int n]))) (putI kds k n) := by
  obtain ⟨p0, hp0, rfl⟩ := List.mem_map.mp hk
  have e1 : putI kds p0.1 n = kds.map fun p => if p.1 = p0.1 then (p.1, p.2 ++ [n]) else p := by unfold putI; rw [if_pos hk]
  have ek : (putI kds p0.1 n).map (·.1) = kds.map (·.1) := by
    rw [e1, List.map_map]
    refine List.map_congr_left fun p _ => ?_
    show (if p.1 = p0.1 then (p.1, p.2 ++ [n]) else p).1 = p.1
    split <;> rfl
  have mem : ∀ q ∈ putI kds p0.1 n, ∃ p ∈ kds, q.1 = p.1 ∧ q.2 = (if p.1 = p0.1 then p.2 ++ [n] else p.2) := fun q hq => by
    rw [e1] at hq
    obtain ⟨p, hp, rfl⟩ := List.mem_map.mp hq
    refine ⟨p, hp, ?_, ?_⟩ <;> split <;> rfl
  obtain ⟨a1, a2, a3, a4⟩ := w.at_ p0 hp0
  refine ⟨w.md, w.gd, ?_, fun q hq => ?_, fun q hq r hr e => ?_, by rw [ek]; exact w.nd, ?_, fun q hq => ?_⟩
  · rw [upd_ne a3.symm, w.hd]
    congr 2
    unfold kvF
    have : ∀ l : KD, l.map (fun p => ((.inr p.1, .ref (f p.1)) : Key × V)) = (l.map (·.1)).map fun k => (.inr k, .ref (f k)) := fun l => by rw [List.map_map]; rfl
    rw [this, this, ek]
  · obtain ⟨p, hp, q1, q2⟩ := mem q hq
    obtain ⟨b1, b2, b3, b4⟩ := w.at_ p hp
    rw [q1, q2]
    refine ⟨b1, b2, b3, ?_⟩
    by_cases h : p.1 = p0.1
    · rw [if_pos h, h, upd_same, List.map_append]
      rw [h] at b4
      rw [hf] at b4
      have z : ns.map V.int = p.2.map V.int := by injection b4 with b4; injection b4
      rw [z]
      rfl
    · rw [if_neg h, upd_ne fun z => h (w.inj p hp p0 hp0 z)]
      exact b4
  · obtain ⟨p, hp, q1, _⟩ := mem q hq
    obtain ⟨p', hp', r1, _⟩ := mem r hr
    rw [q1, r1] at e ⊢
    exact w.inj p hp p' hp' e
  · rw [e1, List.length_map]
    exact w.len.1
  · obtain ⟨p, hp, _, q2⟩ := mem q hq
    rw [q2]
    have := hl p hp
    split
    · rw [List.length_append]; show p.2.length + 1 ≤ 4000; omega
    · omega
/-- a new key, with a new list of one -/
theorem FW.fresh (w : FW d f M G H kds) {k : Str} {n : Int} {z : Addr} (hk : k ∉ kds.map (·.1)) (hz : H z = none) (gz : G z = none) (mz : M z) (hl : kds.length < 4000) :
    FW d (fun s => if s = k then z else f s) M G (upd (upd (upd H z (.lst [])) d (.dK (kvF f kds ++ [(.inr k, .ref z)]))) z (.lst [.int n])) (putI kds k n) := by
  have e1 : putI kds k n = kds ++ [(k, [n])] := by unfold putI; rw [if_neg hk]
  have zd : z ≠ d := fun e => by subst e; rw [w.hd] at hz; cases hz
  have fk : ∀ p ∈ kds, (if p.1 = k then z else f p.1) = f p.1 := fun p hp => if_neg fun e => hk (List.mem_map.mpr ⟨p, hp, e⟩)
  have fz : ∀ p ∈ kds, f p.1 ≠ z := fun p hp e => by have := (w.at_ p hp).2.2.2; rw [e, hz] at this; cases this
  rw [e1]
  refine ⟨w.md, w.gd, ?_, fun q hq => ?_, fun q hq r hr e => ?_, ?_, ?_, fun q hq => ?_⟩
  · rw [upd_ne zd.symm, upd_same]
    unfold kvF
    rw [List.map_append]
    congr 2
    refine congr (congrArg _ (List.map_congr_left fun p hp => ?_)) ?_
    · show ((.inr p.1, .ref (f p.1)) : Key × V) = (.inr p.1, .ref (if p.1 = k then z else f p.1))
      rw [fk p hp]
    · show [((.inr k, .ref z) : Key × V)] = [(.inr k, .ref (if k = k then z else f k))]
      rw [if_pos rfl]
  · rcases List.mem_append.mp hq with h | h
    · obtain ⟨b1, b2, b3, b4⟩ := w.at_ q h
      show M (if q.1 = k then z else f q.1) ∧ G (if q.1 = k then z else f q.1) = none ∧ (if q.1 = k then z else f q.1) ≠ d ∧ _
      rw [fk q h]
      refine ⟨b1, b2, b3, ?_⟩
      rw [upd_ne (fz q h), upd_ne b3, upd_ne (fz q h)]
      exact b4
    · rw [List.mem_singleton] at h
      subst h
      show M (if k = k then z else f k) ∧ G (if k = k then z else f k) = none ∧ (if k = k then z else f k) ≠ d ∧ _
      rw [if_pos rfl]
      exact ⟨mz, gz, zd, upd_same⟩
  · have ev : ∀ q ∈ kds ++ [(k, [n])], (q ∈ kds ∧ q.1 ≠ k ∧ (if q.1 = k then z else f q.1) = f q.1) ∨ (q.1 = k ∧ (if q.1 = k then z else f q.1) = z) := fun q hq => by
      rcases List.mem_append.mp hq with h | h
      · exact .inl ⟨h, fun e => hk (List.mem_map.mpr ⟨q, h, e⟩), fk q h⟩
      · rw [List.mem_singleton] at h
        subst h
        exact .inr ⟨rfl, if_pos rfl⟩
    have e' : (if q.1 = k then z else f q.1) = (if r.1 = k then z else f r.1) := e
    rcases ev q hq with ⟨h1, h2, h3⟩ | ⟨h1, h3⟩ <;> rcases ev r hr with ⟨g1, g2, g3⟩ | ⟨g1, g3⟩
    · rw [h3, g3] at e'
      exact w.inj q h1 r g1 e'
    · rw [h3, g3] at e'
      exact absurd e' (fz q h1)
    · rw [h3, g3] at e'
      exact absurd e'.symm (fz r g1)
    · rw [h1, g1]
  · rw [List.map_append, List.nodup_append]
    refine ⟨w.nd, by simp, fun a ha b hb e => ?_⟩
    rw [show [(k, [n])].map (·.1) = [k] from rfl, List.mem_singleton] at hb
    subst hb
    subst e
    exact hk ha
  · rw [List.length_append]
    show kds.length + 1 ≤ 4000
    omega
  · rcases List.mem_append.mp hq with h | h
    · exact w.len.2 q h
    · rw [List.mem_singleton] at h
      subst h
      show 1 ≤ 4000
      decide
end
end Z

set_option Elab.async false
set_option linter.all false
set_option maxRecDepth 100000
set_option maxHeartbeats 2000000
/-! ZLk2: steps and loops over a dict of lists. -/
namespace Z
open PySem PySem.Spec PyProof.Rows L2
open Evl (Ex Ex.refl Ex.trans Ex.new ex_rd ex_l ex_t sq_of st_of fresh_back sz_of sz_lt)
variable {K : PySem.W.Frag} {ρ ρ' ρ1 ρ2 : Rho} {te ta tb tl tk tv : TE} {ds : List D} {f : Str → Addr} {M : MS} {G H G' H' G0 H0 G1 H1 : Hp} {kds : KD} {σ : L2.St} {E : Ends}
/-- a for loop by what stands between two turns -/
theorem for_run {J : It} {g : TG} {tb : TS} (I : Nat → Hp → Hp → L2.St → Prop) (wk : Walks K G1 J ds) (base : I 0 G1 H1 σ) (hI : ∀ i G H σ, I i G H σ → Ex G1 G ∧ Ex G H)
    (step : ∀ i d, ds[i]? = some d → ∀ G H G' H' σ x, I i G H σ → Grow (fun _ => False) G H G' H' → Ex G' H' → Dz K G' x d → ∀ nx : L2.St → Hp → Prop, (∀ G2 H2 σ2, I (i + 1) G2 H2 σ2 → nx σ2 H2) → g x σ H' fun σ2 H2 => tb { E with nx := nx, ct := nx, bk := E.nx } σ2 H2)
    (fin : ∀ G H σ, I ds.length G H σ → E.nx σ H) :
    ∃ W : Nat → Nat → L2.St → Hp → Prop, (∃ m, W 0 m σ H1) ∧ ∀ i m σ H, W i m σ H →
      (J.stop i H ∧ E.nx σ H) ∨ (J.go i H ∧ ∃ N : L2.St → Hp → Prop, (∀ σ' H', N σ' H' → ∃ m', m' < m ∧ W (i + 1) m' σ' H') ∧ ∀ x H', J.yld i H x H' → g x σ H' fun σ2 H2 => tb { E with nx := N, ct := N, bk := E.nx } σ2 H2) := by
  refine ⟨fun i m σ' H' => i ≤ ds.length ∧ m = ds.length - i ∧ ∃ G, I i G H' σ', ⟨ds.length, Nat.zero_le _, rfl, G1, base⟩, ?_⟩
  rintro i m σi Hi ⟨hle, rfl, Gi, hi⟩
  obtain ⟨e1, e2⟩ := hI i Gi Hi σi hi
  obtain ⟨w1, w2⟩ := wk Gi Hi e1 e2
  cases hit : ds[i]? with
  | none =>
    have hge : ds.length ≤ i := List.getElem?_eq_none_iff.mp hit
    have ei : i = ds.length := Nat.le_antisymm hle hge
    subst ei
    exact .inl ⟨w2, fin _ _ _ hi⟩
  | some d =>
    obtain ⟨hlt, ed⟩ := List.getElem?_eq_some_iff.mp hit
    obtain ⟨hgo, hy⟩ := w1 i d hit
    refine .inr ⟨hgo, fun σ' H' => ∃ G, I (i + 1) G H' σ', fun σ' H' w => ⟨ds.length - (i + 1), by omega, by omega, rfl, w⟩, fun x H' yl => ?_⟩
    obtain ⟨G2, g2, s2, dx⟩ := hy x H' yl
    exact step i d hit _ _ _ _ _ x hi g2 s2 dx _ fun G2 H2 σ2 h => ⟨G2, h⟩
theorem kvF_any (f : Str → Addr) (kds : KD) (k : Str) : ((kvF f kds).any fun kv => decide (kv.1 = (.inr k : Key))) = decide (k ∈ kds.map (·.1)) := by
  unfold kvF
  induction kds with
  | nil => rfl
  | cons p kds ih =>
    rw [List.map_cons, List.any_cons, ih, List.map_cons]
    by_cases h : p.1 = k
    · subst h
      simp
    · have h' : ¬ (Sum.inr p.1 : Key) = Sum.inr k := fun e => h (by injection e)
      have h2 : ¬ k = p.1 := fun e => h e.symm
      simp [h', h2]
theorem kvF_val (f : Str → Addr) : ∀ (kds : KD) (k : Str), valV (kvF f kds) (.inr k) = if k ∈ kds.map (·.1) then some (.ref (f k)) else none
  | [], k => rfl
  | p :: kds, k => by
    have ih := kvF_val f kds k
    unfold valV kvF at ih ⊢
    rw [List.map_cons, List.find?_cons]
    by_cases h : p.1 = k
    · subst h
      simp
    · have h' : ¬ (Sum.inr p.1 : Key) = Sum.inr k := fun e => h (by injection e)
      have h2 : ¬ k = p.1 := fun e => h e.symm
      rw [decide_eq_false h']
      simp only [List.map_cons, List.mem_cons, h2, false_or]
      exact ih
theorem putK_new {f : Str → Addr} {kds : KD} {k : Str} {v : V} (h : k ∉ kds.map (·.1)) : putK (kvF f kds) (.inr k) v = kvF f kds ++ [(.inr k, v)] := by
  unfold putK
  rw [if_neg]
  rw [kvF_any, decide_eq_false h]
  simp
/-- d.setdefault(k, []).append(n) -/
theorem fw_step {i : Nat} {d : Addr} {k : Str} {n : Int} (h1 : EvZ K tk ρ ρ (.str k)) (h2 : EvZ K tv ρ ρ (.int n)) (S : Sim K M G H σ ρ) (fr : Fresh M H) (hn : NoMu ρ) (hs : σ[i]? = some (some (.ref d))) (w : FW d f M G H kds) (hl : kds.length < 4000 ∧ ∀ p ∈ kds, p.2.length < 4000)
    (q : ∀ f' G' H', Grow M G H G' H' → Sim K M G' H' σ ρ → FW d f' M G' H' (putI kds k n) → E.nx σ H') : tDrop (tBM K "list" rAppend (tDSetd (tVar i) tk (tLst tNil)) (tCons tv tNil)) E σ H := by
  refine ⟨.ref d, hs, d, rfl, .inl ⟨_, .inl w.hd⟩, fw_ev h1 S hn hn w _ fun y G1 H1 g1 s1 w1 dy => ?_⟩
  refine en_lst ag_nil (by decide) (offW M d f kds) G1 H1 σ (s1.noMu hn _) _ fun z vs G2 H2 g2 s2 hz gz hz2 dz => ?_
  cases dz
  have w2 := w1.grow off_not g2
  have S2 : Sim K M G2 H2 σ ρ := s2.noMu hn _
  have mz : M z := (fr.grow g1.off) z hz
  have hinW : ¬ inW d f kds z := fun e => w1.ne e hz
  refine ⟨kvF f kds, .inr k, w2.hd, dy.str_inv, sz_lt (by unfold kvF; rw [List.length_map]; omega), fun v hv => ?_, fun hv => ?_⟩
  · -- the key stands
    rw [kvF_val] at hv
    by_cases hk : k ∈ kds.map (·.1)
    · rw [if_pos hk] at hv
      cases hv
      obtain ⟨p0, hp0, rfl⟩ := List.mem_map.mp hk
      obtain ⟨a1, a2, a3, a4⟩ := w2.at_ p0 hp0
      refine ⟨.inl ⟨rfl, _, .inl (.inl a4)⟩, fw_ev h2 S2 hn hn w2 _ fun u G3 H3 g3 s3 w3 du => ?_⟩
      obtain ⟨b1, b2, b3, b4⟩ := w3.at_ p0 hp0
      refine ⟨f p0.1, _, u, rfl, rfl, b4, sz_lt (by rw [List.length_map]; have := hl.2 p0 hp0; omega), ?_⟩
      rw [du.int_inv]
      refine q f G3 _ (((g1.off.trans g2.off).trans g3.off).trans ⟨Ex.refl _, fun a o m e => ?_, fun a _ _ g => g, fun a e => upd_none e⟩) (s3.other b2 fun j es e => absurd e (hn j es)) (w3.snoc hk b4 hl.2)
      rw [upd_ne fun e => by subst e; exact m b1]
      exact e
    · rw [if_neg hk] at hv
      cases hv
  · rw [kvF_val] at hv
    by_cases hk : k ∈ kds.map (·.1)
    · rw [if_pos hk] at hv
      cases hv
    · have zd : z ≠ d := fun e => hinW (.inl e)
      have e3 : putK (kvF f kds) (.inr k) (.ref z) = kvF f kds ++ [(.inr k, .ref z)] := putK_new hk
      rw [e3]
      have hz3 : upd H2 d (HO.dK (kvF f kds ++ [(.inr k, .ref z)])) z = some (.lst []) := by rw [upd_ne zd]; exact hz2
      refine ⟨.inl ⟨rfl, [], .inl (.inl hz3)⟩, ?_⟩
      -- the number, in the heap with the new entry
      have S3 : Sim K M G2 (upd H2 d (HO.dK (kvF f kds ++ [(.inr k, .ref z)]))) σ ρ := S2.other w2.gd fun j es e => absurd e (hn j es)
      refine h2 (fun a => M a ∧ a ≠ z ∧ ¬ inW d f kds a) G2 _ σ (S3.noMu hn _) _ fun u G4 H4 g4 s4 du => ?_
      have k4 : ∀ a o, (a = z ∨ inW d f kds a) → upd H2 d (HO.dK (kvF f kds ++ [(.inr k, .ref z)])) a = some o → H4 a = some o := fun a o h e => g4.k a o (fun y => by rcases h with h | h; exact y.2.1 h; exact y.2.2 h) e
      have n4 : ∀ a, (a = z ∨ inW d f kds a) → upd H2 d (HO.dK (kvF f kds ++ [(.inr k, .ref z)])) a ≠ none → G2 a = none → G4 a = none := fun a h e g => g4.n a (fun y => by rcases h with h | h; exact y.2.1 h; exact y.2.2 h) e g
      have hz4 := k4 z _ (.inl rfl) hz3
      refine ⟨z, [], u, rfl, rfl, hz4, by decide +kernel, ?_⟩
      rw [du.int_inv]
      -- the world anew, by hand
      have w4 : FW d (fun s => if s = k then z else f s) M G4 (upd (upd (upd (del (upd H4 d (.dK (kvF f kds))) z) z (.lst [])) d (.dK (kvF f kds ++ [(.inr k, .ref z)]))) z (.lst [.int n])) (putI kds k n) := by
        refine FW.fresh (H := del (upd H4 d (.dK (kvF f kds))) z) ⟨w2.md, n4 d (.inr (.inl rfl)) (by rw [upd_same]; simp) w2.gd, ?_, fun p hp => ?_, w2.inj, w2.nd, w2.len⟩ hk del_same (n4 z (.inl rfl) (by rw [hz3]; simp) gz) mz hl.1
        · rw [del_ne zd.symm, upd_same]
        · obtain ⟨b1, b2, b3, b4⟩ := w2.at_ p hp
          have ip : inW d f kds (f p.1) := .inr ⟨p, hp, rfl⟩
          refine ⟨b1, n4 _ (.inr ip) (by rw [upd_ne b3, b4]; simp) b2, b3, ?_⟩
          rw [del_ne fun (e : f p.1 = z) => hinW (by rw [← e]; exact ip), upd_ne b3]
          exact k4 _ _ (.inr ip) (by rw [upd_ne b3]; exact b4)
      have eH : upd (upd (upd (del (upd H4 d (.dK (kvF f kds))) z) z (.lst [])) d (.dK (kvF f kds ++ [(.inr k, .ref z)]))) z (.lst [.int n]) = upd H4 z (.lst ([] ++ [.int n])) := by
        funext a
        by_cases e : a = z
        · subst e; rw [upd_same, upd_same]; rfl
        · rw [upd_ne e, upd_ne e]
          by_cases e2 : a = d
          · subst e2
            rw [upd_same]
            exact (k4 a _ (.inr (.inl rfl)) upd_same).symm
          · rw [upd_ne e2, upd_ne e, del_ne e, upd_ne e2]
      rw [eH] at w4
      refine q _ G4 _ ?_ ((s4.noMu hn M).other (n4 z (.inl rfl) (by rw [hz3]; simp) gz) fun j es e => absurd e (hn j es)) w4
      refine ((g1.off.trans g2.off).trans ?_)
      refine (?_ : Grow M G2 H2 G2 (upd H2 d (HO.dK (kvF f kds ++ [(.inr k, .ref z)])))).trans ((g4.wk fun a _ y => y.1 : Grow M G2 _ G4 H4).trans ?_)
      · refine ⟨Ex.refl _, fun a o m e => ?_, fun a _ _ g => g, fun a e => upd_none e⟩
        rw [upd_ne fun e => by subst e; exact m w.md]
        exact e
      · refine ⟨Ex.refl _, fun a o m e => ?_, fun a _ _ g => g, fun a e => upd_none e⟩
        rw [upd_ne fun e => by subst e; exact m mz]
        exact e
/-! ### {k: tuple(v) for k, v in d.items()} -/
def kdD (kds : KD) : List (Key × D) := kds.map fun p => (.inr p.1, .tup (p.2.map .int))
def itD (kds : KD) : List D := kds.map fun p => .tup [.str p.1, .lst (p.2.map .int)]
theorem valD_none {kds : List (Key × D)} {k : Str} (h : ∀ p ∈ kds, p.1 ≠ .inr k) (x : D) : putD kds (.inr k) x = kds ++ [(.inr k, x)] := by
  unfold putD
  rw [if_neg]
  intro hh
  obtain ⟨p, hp, e⟩ := List.any_eq_true.mp hh
  exact h p hp (of_decide_eq_true e)
theorem set_no2 {a b : Nat} {x y : Cell} (ha : ρ[a]? = some .no) (hb : ρ[b]? = some .no) : wipeR ((ρ.set a x).set b y) [a, b] = ρ := by
  show (((ρ.set a x).set b y).set b .no).set a .no = ρ
  apply List.ext_getElem?
  intro i
  have la := (List.getElem?_eq_some_iff.mp ha).1
  have lb := (List.getElem?_eq_some_iff.mp hb).1
  by_cases e : a = i
  · subst e
    rw [List.getElem?_set_self (by simp only [List.length_set]; exact la), ha]
  · rw [List.getElem?_set_ne e]
    by_cases e2 : b = i
    · subst e2
      rw [List.getElem?_set_self (by simp only [List.length_set]; exact lb), hb]
    · rw [List.getElem?_set_ne e2, List.getElem?_set_ne e2, List.getElem?_set_ne e]
theorem comp_items {a b : Nat} (hab : a ≠ b) (ha : ρ[a]? = some .no) (hb : ρ[b]? = some .no) : ∀ (rest done : KD), ((done ++ rest).map (·.1)).Nodup → CompDK K (gTup K 2 (gCons (gName a) (gCons (gName b) gNil))) tYes (tVar a) (tCB (rTupOf K) (tCons (tVar b) tNil)) [a, b] [a, b] (itD rest) ρ (kdD done) (kdD (done ++ rest)) ρ
  | [], done, _ => by
    rw [List.append_nil]
    exact .nil
  | p :: rest, done, h => by
    have la := (List.getElem?_eq_some_iff.mp ha).1
    have lb := (List.getElem?_eq_some_iff.mp hb).1
    have hnew : putD (kdD done) (.inr p.1) (.tup (p.2.map .int)) = kdD (done ++ [p]) := by
      rw [valD_none]
      · unfold kdD
        rw [List.map_append]
        rfl
      · intro q hq e
        unfold kdD at hq
        obtain ⟨r, hr, rfl⟩ := List.mem_map.mp hq
        have e' : r.1 = p.1 := by injection e
        rw [List.map_append, List.nodup_append] at h
        exact h.2.2 r.1 (List.mem_map_of_mem hr) p.1 (by simp) e'
    have ea : ((ρ.set a (.fr (.str p.1))).set b (.fr (.lst (p.2.map .int))))[a]? = some (.fr (.str p.1)) := by
      rw [List.getElem?_set_ne hab.symm, List.getElem?_set_self la]
    have eb : ((ρ.set a (.fr (.str p.1))).set b (.fr (.lst (p.2.map .int))))[b]? = some (.fr (.lst (p.2.map .int))) := by
      rw [List.getElem?_set_self (by rw [List.length_set]; exact lb)]
    refine .yes (k := .inr p.1) (tg_tup rfl (tgs_cons tg_name (tgs_cons tg_name tgs_nil))) ts_yes (ev_var ea) (ev_tupL (ev_var eb)) ?_
    rw [set_no2 ha hb, hnew]
    have q := comp_items hab ha hb rest (done ++ [p]) (by rw [List.append_assoc]; exact h)
    rw [List.append_assoc] at q
    exact q
theorem walks_items {d : Addr} {od : Obj} {G3 : Hp} (hd : G3 d = some (.frz od (.dK (kvF f kds)))) (hf : ∀ p ∈ kds, G3 (f p.1) = some (.lst (p.2.map V.int))) : Walks K G3 (Iti d od (kvF f kds)) (itD kds) := fun G H e s => by
  have hH := s _ _ (e _ _ hd)
  have hl : (kvF f kds).length = kds.length := by unfold kvF; rw [List.length_map]
  have hl2 : (itD kds).length = kds.length := by unfold itD; rw [List.length_map]
  refine ⟨fun i x hi => ?_, hH, by rw [hl, hl2]; exact Nat.le_refl _⟩
  unfold itD at hi
  rw [List.getElem?_map] at hi
  cases hp : kds[i]? with
  | none => rw [hp] at hi; cases hi
  | some p =>
    rw [hp] at hi
    cases hi
    obtain ⟨lt, ep⟩ := List.getElem?_eq_some_iff.mp hp
    have pm : p ∈ kds := ep ▸ List.getElem_mem lt
    refine ⟨⟨hH, by rw [hl]; exact lt⟩, fun y H' yl => ?_⟩
    obtain ⟨T, k, v, hk, rfl, hT, rfl⟩ := yl
    unfold kvF at hk
    rw [List.getElem?_map, hp] at hk
    cases hk
    exact pair_new (G1 := G) s hT (.str _) (.lst (sq_of (e _ _ (hf p pm))) (.of_ints _))
open Classical in
theorem fw_items {i a b : Nat} {d : Addr} (hab : a ≠ b) (ha : ρ[a]? = some .no) (hb : ρ[b]? = some .no) (S : Sim K M G H σ ρ) (hn : NoMu ρ) (hs : σ[i]? = some (some (.ref d))) (w : FW d f M G H kds) (Q : VK)
    (q : ∀ v G' H', Grow M G H G' H' → Sim K M G' H' σ ρ → Dz K G' v (.dK (kdD kds)) → Q v H') : tLockE (tDc (iItems (tVar i)) (gTup K 2 (gCons (gName a) (gCons (gName b) gNil))) tYes (tVar a) (tCB (rTupOf K) (tCons (tVar b) tNil)) [a, b]) σ H Q := by
  refine ⟨d, .dK (kvF f kds), w.hd, trivial, fun od => ?_⟩
  have hmW : ∀ x, inW d f kds x → M x := fun x h => by
    rcases h with rfl | ⟨p, hp, rfl⟩
    · exact w.md
    · exact (w.at_ p hp).1
  let HL : Hp := upd H d (HO.frz od (.dK (kvF f kds)))
  let G3 : Hp := fun x => if inW d f kds x then HL x else G x
  have g3d : G3 d = some (.frz od (.dK (kvF f kds))) := by
    show (if inW d f kds d then HL d else G d) = _
    rw [if_pos (.inl rfl)]
    exact upd_same
  have g3f : ∀ p ∈ kds, G3 (f p.1) = some (.lst (p.2.map V.int)) := fun p hp => by
    obtain ⟨b1, b2, b3, b4⟩ := w.at_ p hp
    show (if inW d f kds (f p.1) then HL (f p.1) else G (f p.1)) = _
    rw [if_pos (.inr ⟨p, hp, rfl⟩)]
    exact (upd_ne b3).trans b4
  have e1 : Ex G G3 := fun x o e => by
    have nw : ¬ inW d f kds x := fun h => by rw [w.g0 h] at e; cases e
    show (if inW d f kds x then HL x else G x) = _
    rw [if_neg nw]
    exact e
  have e2 : Ex G3 HL := fun x o e => by
    have e : (if inW d f kds x then HL x else G x) = some o := e
    by_cases h : inW d f kds x
    · rw [if_pos h] at e
      exact e
    · rw [if_neg h] at e
      exact (upd_ne fun z => h (.inl z)).trans (S.sub _ _ e)
  have S3 : Sim K M G3 HL σ ρ := S.grow e2 e1 fun p m j e => absurd e (hn j m)
  have hc := comp_items (K := K) hab ha hb kds [] w.nd
  have ew : wipeR ρ [a, b] = ρ := by
    show (ρ.set b .no).set a .no = ρ
    have := set_no2 (ρ := ρ) (x := .no) (y := .no) ha hb
    have e3 : ρ.set a .no = ρ := by
      apply List.ext_getElem?
      intro j
      by_cases e : a = j
      · subst e; rw [List.getElem?_set_self (List.getElem?_eq_some_iff.mp ha).1, ha]
      · rw [List.getElem?_set_ne e]
    have e4 : ρ.set b .no = ρ := by
      apply List.ext_getElem?
      intro j
      by_cases e : b = j
      · subst e; rw [List.getElem?_set_self (List.getElem?_eq_some_iff.mp hb).1, hb]
      · rw [List.getElem?_set_ne e]
    rw [e4, e3]
  refine dcK_at (ρ1 := ρ) (ρ' := ρ) (ds := itD kds) (A := [a, b]) (out := kdD kds) S3 (fun R r => ⟨.ref d, hs, d, od, kvF f kds, rfl, upd_same, r _ G3 HL .refl S3 (walks_items g3d g3f)⟩) (by rw [ew]; exact hc) (fun x h => h) .refl (by unfold itD; rw [List.length_map]; have := w.len.1; omega) _ fun v G' H' g s dz => ?_
  have gd' : G' d = some (.frz od (.dK (kvF f kds))) := g.g _ _ g3d
  refine ⟨s.sub _ _ gd', q v (del G' d) _ ⟨fun x o e => ?_, fun x o m e => ?_, fun x m e z => ?_, fun x e => ?_⟩ ⟨s.len, fun x o e => ?_, fun {j x} e => ?_, fun {j m} e => absurd e (hn j m), fun {j k m n p} _ e => absurd e (hn j m)⟩ (dz.del gd')⟩
  · rw [del_ne fun z => by subst z; rw [w.gd] at e; cases e]
    exact g.g _ _ (e1 _ _ e)
  · have nd : x ≠ d := fun z => by subst z; exact m w.md
    rw [upd_ne nd]
    exact g.k x o m ((upd_ne nd).trans e)
  · have nd : x ≠ d := fun z => by subst z; exact m w.md
    rw [del_ne nd]
    refine g.n x m ?_ ?_
    · show upd H d _ x ≠ none
      rw [upd_ne nd]; exact e
    · show (if inW d f kds x then HL x else G x) = none
      rw [if_neg fun h => m (hmW x h)]
      exact z
  · exact upd_none (g.d x (upd_none e))
  · have nd : x ≠ d := fun z => by subst z; rw [del_same] at e; cases e
    rw [del_ne nd] at e
    rw [upd_ne nd]
    exact s.sub _ _ e
  · obtain ⟨u, h1, h2⟩ := s.fr e
    exact ⟨u, h1, h2.del gd'⟩
end Z

set_option Elab.async false
set_option linter.all false
set_option maxRecDepth 100000
set_option maxHeartbeats 2000000
/-! SpB: dimensions; _is_leaf, _is_dimension, check_dimensions, choices. -/
namespace Z
open PySem PySem.Spec PyProof.Rows L2
open Evl (Ex Ex.refl Ex.trans Ex.new ex_rd ex_l ex_t sq_of st_of fresh_back sz_of sz_lt)
structure Dm where
  name : Str
  leaves : List (List Str)
def Dm.paths (d : Dm) : List Str := d.leaves.map pathS
def Dm.tupD (d : Dm) : D := .tup (d.paths.map .str)
def Dm.d (d : Dm) : D := .tup [.str d.name, d.tupD]
def dimsD (ds : List Dm) : D := .tup (ds.map Dm.d)
structure Dm.Good (d : Dm) (n : Nat) : Prop where
  name : wordB d.name = true
  few : 2 ≤ d.leaves.length
  most : d.leaves.length ≤ 8
  n1 : 1 ≤ n
  n3 : n ≤ 3
  depth : ∀ ws ∈ d.leaves, ws.length = n
  words : ∀ ws ∈ d.leaves, GoodW ws
  asc : d.paths.Pairwise fun x y => x.cps.toList < y.cps.toList
def cellsN : List Dm → Nat
  | [] => 1
  | d :: ds => d.leaves.length * cellsN ds
structure GoodDs (ds : List Dm) : Prop where
  few : 1 ≤ ds.length
  most : ds.length ≤ 3
  names : (ds.map Dm.name).Nodup
  good : ∀ d ∈ ds, ∃ n, d.Good n
  cells : cellsN ds ≤ 48
theorem met_acc : ∀ (xs acc : List Str), (acc ++ xs).Nodup → xs.foldl addS acc = acc ++ xs
  | [], acc, _ => (List.append_nil _).symm
  | x :: xs, acc, h => by
    have hx : x ∉ acc := fun m => by
      rw [List.nodup_append] at h
      exact h.2.2 x m x List.mem_cons_self rfl
    have e : addS acc x = acc ++ [x] := by unfold addS; rw [if_neg hx]
    rw [List.foldl_cons, e, met_acc xs (acc ++ [x]) (by rw [List.append_assoc]; exact h), List.append_assoc]
    rfl
theorem met_nodup {xs : List Str} (h : xs.Nodup) : met xs = xs := met_acc xs [] h
section
variable {K : PySem.W.Frag} {S : List Nat} {ρ ρ' ρ1 ρ2 : Rho} {te ta tb : TE} {ds : List D} {d e : D}
/-- [f(p, q) for p, q in pairs] -/
theorem comp_mapP {α : Type} {a b : Nat} (hab : a ≠ b) (u v : α → D) (f : α → D) (ha : ρ[a]? = some .no) (hb : ρ[b]? = some .no) : ∀ (ps : List α), (∀ p ∈ ps, EvZ K te ((ρ.set a (.fr (u p))).set b (.fr (v p))) ((ρ.set a (.fr (u p))).set b (.fr (v p))) (f p)) →
    CompZ K (gTup K 2 (gCons (gName a) (gCons (gName b) gNil))) tYes te [a, b] [a, b] (ps.map fun p => D.tup [u p, v p]) ρ (ps.map f) ρ
  | [], _ => .nil
  | p :: ps, h => by
    refine .yes (tg_tup rfl (tgs_cons tg_name (tgs_cons tg_name tgs_nil))) ts_yes (h p List.mem_cons_self) ?_
    rw [set_no2 ha hb]
    exact comp_mapP hab u v f ha hb ps fun q hq => h q (List.mem_cons_of_mem _ hq)
theorem zip_map {α β : Type} (u : α → D) (v : β → D) : ∀ (xs : List α) (ys : List β), zipD (xs.map u) (ys.map v) = (xs.zip ys).map fun p => D.tup [u p.1, v p.2]
  | [], ys => by simp [zipD]
  | x :: xs, [] => by simp [zipD]
  | x :: xs, y :: ys => by
    show D.tup [u x, v y] :: zipD (xs.map u) (ys.map v) = _
    rw [zip_map u v xs ys]
    rfl
theorem cut_one {xs : List D} : cutD xs (some 1) none = xs.drop 1 := by
  unfold cutD
  cases xs with
  | nil => rfl
  | cons x xs =>
    have e1 : HT.sIx (x :: xs).length 0 (some 1) = 1 := by
      unfold HT.sIx
      simp
    have e2 : HT.sIx (x :: xs).length (x :: xs).length none = (x :: xs).length := rfl
    rw [e1, e2]
    exact List.take_of_length_le (by simp)
/-! ### _is_leaf -/
/-! ### _is_dimension -/
theorem ev_i1 {i : Nat} {n : Int} (h : ρ[i]? = some (.fr (.int n))) : EvZ K (tVar i) ρ ρ (.int n) := ev_var h
/-! ### check_dimensions -/
theorem lenTup (d : Dm) : (d.paths.map D.str).length = d.leaves.length := by unfold Dm.paths; rw [List.length_map, List.length_map]
theorem cells_pos {ds : List Dm} (h : ∀ d ∈ ds, ∃ n, d.Good n) : 1 ≤ cellsN ds := by
  induction ds with
  | nil => exact Nat.le_refl 1
  | cons d ds ih =>
    obtain ⟨n, g⟩ := h d List.mem_cons_self
    have h1 := ih fun x hx => h x (List.mem_cons_of_mem _ hx)
    have h2 := g.few
    show 1 ≤ d.leaves.length * cellsN ds
    exact Nat.mul_pos (by omega) h1
/-! ### choices -/
def consE {α : Type} (found : List (List α)) (row : List α) : List (List α) := found.flatMap fun c => row.map fun x => c ++ [x]
def choicesD {α : Type} (rows : List (List α)) : List (List α) := rows.foldl consE [[]]
theorem consE_map {α β : Type} (f : α → β) (row : List α) : ∀ found : List (List α), consE (found.map fun (r : List α) => r.map f) (row.map f) = (consE found row).map fun (r : List α) => r.map f
  | [] => rfl
  | c :: found => by
    show List.map _ (row.map f) ++ consE (found.map fun (r : List α) => r.map f) (row.map f) = (List.map _ row ++ consE found row).map fun (r : List α) => r.map f
    rw [consE_map f row found, List.map_append, List.map_map, List.map_map]
    congr 1
    refine List.map_congr_left fun x _ => ?_
    show c.map f ++ [f x] = (c ++ [x]).map f
    rw [List.map_append]
    rfl
theorem choices_acc {α β : Type} (f : α → β) : ∀ (rows : List (List α)) (found : List (List α)), (rows.map fun (r : List α) => r.map f).foldl consE (found.map fun (r : List α) => r.map f) = (rows.foldl consE found).map fun (r : List α) => r.map f
  | [], found => rfl
  | r :: rows, found => by
    rw [List.map_cons, List.foldl_cons, List.foldl_cons, consE_map, choices_acc f rows]
theorem choices_map {α β : Type} (f : α → β) (rows : List (List α)) : choicesD (rows.map fun (r : List α) => r.map f) = (choicesD rows).map fun (r : List α) => r.map f := choices_acc f rows [[]]
def rowD (r : Bool × List D) : D := if r.1 then .tup r.2 else .lst r.2
def prodN : List (Bool × List D) → Nat
  | [] => 1
  | r :: rs => r.2.length * prodN rs
theorem consE_len {α : Type} (row : List α) : ∀ found : List (List α), (consE found row).length = found.length * row.length
  | [] => by rw [List.length_nil, Nat.zero_mul]; rfl
  | c :: found => by
    show (List.map _ row ++ consE found row).length = _
    rw [List.length_append, List.length_map, consE_len row found, List.length_cons, Nat.succ_mul, Nat.add_comm]
theorem consE_mem {found : List (List D)} {row : List D} {n : Nat} (h : ∀ c ∈ found, c.length = n) : ∀ c ∈ consE found row, c.length = n + 1 := fun c hc => by
  obtain ⟨a, ha, hc⟩ := List.mem_flatMap.mp hc
  obtain ⟨x, hx, rfl⟩ := List.mem_map.mp hc
  rw [List.length_append, h a ha]
  rfl
theorem choice_comp {r : Bool × List D} {c0 c1 : Cell} : ∀ found : List (List D), (∀ c ∈ found, c.length ≤ 90000) → CompZ2 K (gName 3) tYes (iSeq K (tVar 2)) (gName 4) tYes (e_choices_1 K) [3, 4] [4] [3] [4] r.2.length (found.map .tup) [c0, c1, .fr (rowD r), .no, .no] ((consE found r.2).map .tup) [c0, c1, .fr (rowD r), .no, .no]
  | [], _ => .nil
  | c :: found, h => by
    have hi : ItZ K (iSeq K (tVar 2)) [c0, c1, .fr (rowD r), .fr (.tup c), .no] [c0, c1, .fr (rowD r), .fr (.tup c), .no] r.2 := by
      have e : EvZ K (tVar 2) [c0, c1, .fr (rowD r), .fr (.tup c), .no] [c0, c1, .fr (rowD r), .fr (.tup c), .no] (rowD r) := ev_var rfl
      unfold rowD at e ⊢
      by_cases hb : r.1 = true
      · rw [if_pos hb] at e ⊢
        exact it_seqT e
      · rw [if_neg hb] at e ⊢
        exact it_seqL e
    have e2 : (consE (c :: found) r.2).map D.tup = (r.2.map fun x => D.tup (c ++ [x])) ++ (consE found r.2).map D.tup := by
      show (List.map _ r.2 ++ consE found r.2).map D.tup = _
      rw [List.map_append, List.map_map]
      rfl
    rw [e2]
    refine .step tg_name ts_yes hi (Nat.le_refl _) (ρ4 := [c0, c1, .fr (rowD r), .fr (.tup c), .no]) ?_ (choice_comp found fun x hx => h x (List.mem_cons_of_mem _ hx))
    refine comp_map (K := K) (ρ := [c0, c1, .fr (rowD r), .fr (.tup c), .no]) (j := 4) (fun x => D.tup (c ++ [x])) rfl r.2 fun x _ => ?_
    exact ev_tup (ag_starT (ev_var (i := 3) rfl) (ag_cons (ev_var (i := 4) rfl) ag_nil)) (by rw [List.length_append]; have := h c List.mem_cons_self; show c.length + 1 ≤ 100000; omega)
theorem choice_loop {c0 : Cell} : ∀ (rows : List (Bool × List D)) (found : List (List D)) (c2 : Cell) (n : Nat), (∀ c ∈ found, c.length = n) → n + rows.length ≤ 100 → (∀ r ∈ rows, 1 ≤ r.2.length) → found.length * prodN rows ≤ 48 → ∃ c2', LoopZ K [] (gName 2) (b_choices_2 K) [2] (rows.map rowD) [c0, .own (found.map .tup), c2, .no, .no] (.nx [c0, .own (((rows.map (·.2)).foldl consE found).map .tup), c2', .no, .no])
  | [], found, c2, n, _, _, _, _ => ⟨c2, .nil⟩
  | r :: rows, found, c2, n, hf, hn, hr, hp => by
    have r1 := hr r List.mem_cons_self
    have pp : 1 ≤ prodN rows := by
      have : ∀ l : List (Bool × List D), (∀ x ∈ l, 1 ≤ x.2.length) → 1 ≤ prodN l := fun l => by
        induction l with
        | nil => exact fun _ => Nat.le_refl 1
        | cons x l ih => exact fun h => Nat.mul_pos (h x List.mem_cons_self) (ih fun y hy => h y (List.mem_cons_of_mem _ hy))
      exact this rows fun x hx => hr x (List.mem_cons_of_mem _ hx)
    have e : found.length * prodN (r :: rows) = found.length * r.2.length * prodN rows := (Nat.mul_assoc _ _ _).symm
    rw [e] at hp
    rw [List.length_cons] at hn
    have h48 : found.length * r.2.length ≤ 48 := Nat.le_trans (Nat.le_mul_of_pos_right _ pp) hp
    obtain ⟨c2', h⟩ := choice_loop (c0 := c0) rows (consE found r.2) (.fr (rowD r)) (n + 1) (consE_mem hf) (by omega) (fun x hx => hr x (List.mem_cons_of_mem _ hx)) (by rw [consE_len]; exact hp)
    refine ⟨c2', .step tg_name (ex_freeze (i := 1) (ds := found.map .tup) rfl (ex_setN (i := 1) (ρ1 := [c0, .fr (.lst (found.map .tup)), .fr (rowD r), .no, .no]) (ds := (consE found r.2).map .tup) (en_lc2 (A := [3]) (A1 := [4]) (it_list (ev_var (i := 1) rfl)) (choice_comp found fun c hc => by rw [hf c hc]; omega) (by decide) (by decide) (by decide) ?_) OwnIn.refl (by decide))) h⟩
    rw [List.length_map]
    omega
def PreCh (cs : List Cell) : Prop := ∃ rows : List (Bool × List D), cs = [.fr (.lst (rows.map rowD))] ∧ rows.length ≤ 90 ∧ (∀ r ∈ rows, 1 ≤ r.2.length) ∧ prodN rows ≤ 48
def PostCh (cs : List Cell) (r : Cell) (cs' : List Cell) : Prop := cs' = cs ∧ ∀ rows : List (Bool × List D), cs = [.fr (.lst (rows.map rowD))] → r = .own ((choicesD (rows.map (·.2))).map .tup)
end
section
variable {K : PySem.W.Frag}
theorem rowD_inj : ∀ {a b : List (Bool × List D)}, a.map rowD = b.map rowD → a.map (·.2) = b.map (·.2)
  | [], [], _ => rfl
  | x :: a, y :: b, h => by
    rw [List.map_cons, List.map_cons] at h
    injection h with h1 h2
    rw [List.map_cons, List.map_cons, rowD_inj h2]
    congr 1
    unfold rowD at h1
    split at h1 <;> split at h1 <;> first | (injection h1) | cases h1
theorem sem_choices : Spec (RelOf K [] (t_choices K) 5 1) PreCh PostCh := by
  rintro _ ⟨rows, rfl, h1, h2, h3⟩
  obtain ⟨c2', h⟩ := choice_loop (K := K) (c0 := .fr (.lst (rows.map rowD))) rows [[]] .no 0 (fun c hc => by rw [List.mem_singleton.mp hc]; rfl) (by omega) h2 (by rw [List.length_singleton, Nat.one_mul]; exact h3)
  have key : ∃ ρ2, ExZ K [] (t_choices K) [.fr (.lst (rows.map rowD)), .no, .no, .no, .no] (.rt ρ2 (.own ((choicesD (rows.map (·.2))).map .tup))) :=
    ⟨_, ex_seq (ex_setN (i := 1) (en_lst (ag_cons (ev_tup ag_nil (by decide)) ag_nil) (by decide)) OwnIn.refl (by decide)) (ex_seq (ex_for (it_list (ev_var (i := 0) rfl)) h (by decide)) (ex_retO (i := 1) rfl))⟩
  obtain ⟨ρ2, h⟩ := key
  refine ⟨_, _, ⟨rfl, ρ2, .inl h, fin_fr (ds := [.lst (rows.map rowD)])⟩, rfl, fun rows' e => ?_⟩
  injection e with e
  injection e with e
  injection e with e
  rw [rowD_inj e]
end
end Z

set_option Elab.async false
set_option linter.all false
set_option maxRecDepth 100000
set_option maxHeartbeats 2000000
/-! SpC: _members_by_level, _leaves_by_member. -/
namespace Z
open PySem PySem.Spec PyProof.Rows L2
open Evl (Ex Ex.refl Ex.trans Ex.new ex_rd ex_l ex_t sq_of st_of fresh_back sz_of sz_lt)
section
variable {K : PySem.W.Frag}
/-! ### _members_by_level -/
def starts (lv : List (List Str)) (l : Nat) : List Str := lv.map fun ws => pathS (ws.take l)
def memL (lv : List (List Str)) (l : Nat) : List Str := met (starts lv l)
def kvB (acc : List Str) : List (Key × D) := acc.map fun s => (.inr s, .bl true)
theorem kvB_put (acc : List Str) (s : Str) : putD (kvB acc) (.inr s) (.bl true) = kvB (addS acc s) := by
  unfold addS
  by_cases h : s ∈ acc
  · rw [if_pos h]
    unfold putD
    have ha : ((kvB acc).any fun kv => decide (kv.1 = (.inr s : Key))) = true := List.any_eq_true.mpr ⟨((.inr s : Key), D.bl true), List.mem_map.mpr ⟨s, h, rfl⟩, by simp⟩
    rw [if_pos ha]
    unfold kvB
    rw [List.map_map]
    refine List.map_congr_left fun x _ => ?_
    show (if (.inr x : Key) = .inr s then ((.inr x : Key), D.bl true) else (.inr x, .bl true)) = _
    split <;> rfl
  · rw [if_neg h, valD_none]
    · unfold kvB
      rw [List.map_append]
      rfl
    · intro p hp e
      unfold kvB at hp
      obtain ⟨x, hx, rfl⟩ := List.mem_map.mp hp
      injection e with e
      subst e
      exact h hx
theorem kvB_keys (acc : List Str) : (kvB acc).map (fun kv => keyD kv.1) = acc.map D.str := by
  unfold kvB
  rw [List.map_map]
  rfl
theorem mem_comp {Rs Rw : Rel} (hs : Spec Rs PreSt PostSt) {c0 c1 c3 : Cell} {l : Nat} : ∀ (lv : List (List Str)) (acc : List Str), (∀ ws ∈ lv, GoodW ws ∧ ws.length ≤ 100) → CompDK K (gName 4) tYes (k__members_by_level_1 K Rs Rw) (v__members_by_level_1 K Rs Rw) [4] [4] (lv.map fun ws => D.str (pathS ws)) [c0, c1, .fr (.int (l : Int)), c3, .no] (kvB acc) (kvB ((starts lv l).foldl addS acc)) [c0, c1, .fr (.int (l : Int)), c3, .no]
  | [], acc, _ => .nil
  | ws :: lv, acc, h => by
    obtain ⟨h1, h2⟩ := h ws List.mem_cons_self
    have ih := mem_comp (Rw := Rw) hs (c0 := c0) (c1 := c1) (c3 := c3) (l := l) lv (addS acc (pathS (ws.take l))) fun x hx => h x (List.mem_cons_of_mem _ hx)
    rw [← kvB_put] at ih
    exact .yes (k := .inr (pathS (ws.take l))) tg_name ts_yes (ev_start hs h1 h2 (ev_var (i := 4) rfl) (ev_var (i := 2) rfl)) ev_bl ih
def levelsD (lv : List (List Str)) (n : Nat) : List D := (List.range n).map fun l => D.tup ((memL lv l).map .str)
theorem mem_loop {Rs Rw : Rel} (hs : Spec Rs PreSt PostSt) {lv : List (List Str)} (hg : ∀ ws ∈ lv, GoodW ws ∧ ws.length ≤ 100) (hl : lv.length ≤ 1000) : ∀ (n m : Nat) (c2 c3 : Cell), m + n ≤ 100 → ∃ c2' c3', LoopZ K [] (gName 2) (b__members_by_level_2 K Rs Rw) [2] (rangeD (m : Int) n) [.fr (.tup (lv.map fun ws => .str (pathS ws))), .own (levelsD lv m), c2, c3, .no] (.nx [.fr (.tup (lv.map fun ws => .str (pathS ws))), .own (levelsD lv (m + n)), c2', c3', .no])
  | 0, m, c2, c3, _ => ⟨c2, c3, .nil⟩
  | n + 1, m, c2, c3, hm => by
    rw [rangeD_cons]
    obtain ⟨c2', c3', h⟩ := mem_loop hs hg hl n (m + 1) (.fr (.int (m : Int))) (.fr (.dK (kvB (memL lv m)))) (by omega)
    have e : levelsD lv (m + 1) = levelsD lv m ++ [.tup (((kvB (memL lv m)).map fun kv => keyD kv.1))] := by
      unfold levelsD
      rw [List.range_succ, List.map_append, kvB_keys]
      rfl
    rw [e, show m + 1 + n = m + (n + 1) by omega] at h
    refine ⟨c2', c3', .step tg_name (ex_seq (ex_set (i := 3) (ev_dcK (A := [4]) (out := kvB (memL lv m)) (it_tup (ev_var (i := 0) rfl)) (mem_comp hs lv [] hg) (by decide) .refl (by rw [List.length_map]; omega)) (by decide))
      (ex_app (i := 1) (ev_tupDN (ev_var (i := 3) rfl)) rfl rfl (by unfold levelsD; rw [List.length_map, List.length_range]; omega))) h⟩
def PreMem (cs : List Cell) : Prop := ∃ (lv : List (List Str)) (n : Nat), cs = [.fr (.tup (lv.map fun ws => .str (pathS ws)))] ∧ 1 ≤ lv.length ∧ lv.length ≤ 1000 ∧ n ≤ 50 ∧ ∀ ws ∈ lv, GoodW ws ∧ ws.length = n
def PostMem (cs : List Cell) (r : Cell) (cs' : List Cell) : Prop := cs' = cs ∧ ∀ (lv : List (List Str)) (n : Nat), 1 ≤ lv.length → (∀ ws ∈ lv, GoodW ws ∧ ws.length = n) → cs = [.fr (.tup (lv.map fun ws => .str (pathS ws)))] → r = .own (levelsD lv (n + 1))
theorem paths_inj : ∀ {a b : List (List Str)}, (∀ ws ∈ a, GoodW ws) → (∀ ws ∈ b, GoodW ws) → (a.map fun ws => D.str (pathS ws)) = (b.map fun ws => D.str (pathS ws)) → a = b
  | [], [], _, _, _ => rfl
  | x :: a, y :: b, ha, hb, h => by
    rw [List.map_cons, List.map_cons] at h
    injection h with h1 h2
    injection h1 with h1
    rw [path_inj (ha x List.mem_cons_self) (hb y List.mem_cons_self) h1, paths_inj (fun z hz => ha z (List.mem_cons_of_mem _ hz)) (fun z hz => hb z (List.mem_cons_of_mem _ hz)) h2]
theorem sem_members {Rs Rw : Rel} (hs : Spec Rs PreSt PostSt) (hw : Spec Rw PreWo PostWo) : Spec (RelOf K [] (t__members_by_level K Rs Rw) 5 1) PreMem PostMem := by
  rintro _ ⟨lv, n, rfl, h1, h2, h3, hg⟩
  have h0 : 0 < lv.length := h1
  have m0 := hg _ (List.getElem_mem h0)
  obtain ⟨c2', c3', h⟩ := mem_loop (K := K) (Rw := Rw) hs (lv := lv) (fun ws hws => ⟨(hg ws hws).1, by have := (hg ws hws).2; omega⟩) h2 (n + 1) 0 .no .no (by omega)
  rw [Nat.zero_add] at h
  have e : ((((lv[0]).map D.str).length : Int) + 1).toNat = n + 1 := by rw [List.length_map, m0.2]; omega
  have h : LoopZ K [] (gName 2) (b__members_by_level_2 K Rs Rw) [2] (rangeD ((0 : Nat) : Int) ((((lv[0]).map D.str).length : Int) + 1).toNat) [.fr (.tup (lv.map fun ws => .str (pathS ws))), .own [], .no, .no, .no] (.nx [.fr (.tup (lv.map fun ws => .str (pathS ws))), .own (levelsD lv (n + 1)), c2', c3', .no]) := by
    rw [e]
    exact h
  have key : ∃ ρ2, ExZ K [] (t__members_by_level K Rs Rw) [.fr (.tup (lv.map fun ws => .str (pathS ws))), .no, .no, .no, .no] (.rt ρ2 (.own (levelsD lv (n + 1)))) := by
    refine ⟨_, ex_seq (ex_setN (i := 1) (en_lst ag_nil (by decide)) OwnIn.refl (by decide)) (ex_seq (ex_for (it_range1 (n := (((lv[0]).map D.str).length : Int) + 1) (ag_cons (ev_add (ev_lenL (EvN.rd (en_words hw m0.1 (by have := m0.2; omega) (ev_ixT (i := 0) (ds := lv.map fun ws => D.str (pathS ws)) (ev_var (i := 0) rfl) ev_int (at_nat (j := 0) ?_))))) ev_int) ag_nil) ?_) h (by decide)) (ex_retO (i := 1) rfl))⟩
    · rw [List.getElem?_map, List.getElem?_eq_getElem h0]
      rfl
    · rw [List.length_map, m0.2]
      omega
  obtain ⟨ρ2, h⟩ := key
  refine ⟨_, _, ⟨rfl, ρ2, .inl h, fin_fr (ds := [.tup (lv.map fun ws => .str (pathS ws))])⟩, rfl, fun lv' n' h1' hg' e => ?_⟩
  injection e with e
  injection e with e
  injection e with e
  have el := paths_inj (fun ws h => (hg ws h).1) (fun ws h => (hg' ws h).1) e
  subst el
  have := (hg' _ (List.getElem_mem h0)).2
  rw [← this, m0.2]
end
end Z

set_option Elab.async false
set_option linter.all false
set_option maxRecDepth 100000
set_option maxHeartbeats 2000000
/-! SpD: _leaves_by_member. -/
namespace Z
open PySem PySem.Spec PyProof.Rows L2
open Evl (Ex Ex.refl Ex.trans Ex.new ex_rd ex_l ex_t sq_of st_of fresh_back sz_of sz_lt)
/-- one leaf: its starts of the levels below m -/
def addLeaf (i : Int) (ws : List Str) : Nat → KD → KD
  | 0, kds => kds
  | m + 1, kds => putI (addLeaf i ws m kds) (pathS (ws.take m)) i
def addLeaves (m : Nat) : Nat → List (List Str) → KD → KD
  | _, [], kds => kds
  | i, ws :: lv, kds => addLeaves m (i + 1) lv (addLeaf (i : Int) ws m kds)
def lbm (lv : List (List Str)) (m : Nat) : KD := addLeaves m 0 lv []
structure Few (n : Nat) (kds : KD) : Prop where
  l : kds.length ≤ n
  p : ∀ q ∈ kds, q.2.length ≤ n
theorem Few.put {n : Nat} {kds : KD} (h : Few n kds) (k : Str) (i : Int) : Few (n + 1) (putI kds k i) := by
  unfold putI
  split
  · refine ⟨by rw [List.length_map]; have := h.l; omega, fun q hq => ?_⟩
    obtain ⟨p, hp, rfl⟩ := List.mem_map.mp hq
    have := h.p p hp
    split
    · rw [List.length_append]; show p.2.length + 1 ≤ n + 1; omega
    · omega
  · refine ⟨by rw [List.length_append]; have := h.l; show kds.length + 1 ≤ n + 1; omega, fun q hq => ?_⟩
    rcases List.mem_append.mp hq with z | z
    · have := h.p q z; omega
    · rw [List.mem_singleton.mp z]
      show 1 ≤ n + 1
      omega
theorem Few.leaf {n : Nat} {kds : KD} (h : Few n kds) (i : Int) (ws : List Str) : ∀ m, Few (n + m) (addLeaf i ws m kds)
  | 0 => h
  | m + 1 => (h.leaf i ws m).put _ _
section
variable {K : PySem.W.Frag} {Rs Rw : Rel} {lv : List (List Str)} {M : MS} {G H G0 H0 : Hp} {σ : L2.St} {E : Ends}
abbrev lvD (lv : List (List Str)) : D := .tup (lv.map fun ws => .str (pathS ws))
/-- what stands between two turns -/
structure LW (K : PySem.W.Frag) (M : MS) (G0 H0 G1 : Hp) (p : Addr) (ρ : Rho) (kds : KD) (G H : Hp) (σ : L2.St) : Prop where
  e : Ex G1 G
  g : Grow M G0 H0 G H
  s : Sim K M G H σ ρ
  at1 : σ[1]? = some (some (.ref p))
  w : ∃ f, FW p f M G H kds
theorem nomu7 {c0 c2 c3 c4 : D} : NoMu [.fr c0, .no, .fr c2, .fr c3, .fr c4, .no, .no] := fun i m h => by
  match i, h with
  | 0, h | 1, h | 2, h | 3, h | 4, h | 5, h | 6, h => simp at h
  | i + 7, h => simp at h
theorem nomu7' {c0 c2 c3 : D} : NoMu [.fr c0, .no, .fr c2, .fr c3, .no, .no, .no] := fun i m h => by
  match i, h with
  | 0, h | 1, h | 2, h | 3, h | 4, h | 5, h | 6, h => simp at h
  | i + 7, h => simp at h
theorem nomu7'' {c0 : D} : NoMu [.fr c0, .no, .no, .no, .no, .no, .no] := fun i m h => by
  match i, h with
  | 0, h | 1, h | 2, h | 3, h | 4, h | 5, h | 6, h => simp at h
  | i + 7, h => simp at h
theorem forget7 {c0 c2 c3 c4 : D} (s : Sim K M G H σ [.fr c0, .no, .fr c2, .fr c3, .fr c4, .no, .no]) : Sim K M G H σ [.fr c0, .no, .fr c2, .fr c3, .no, .no, .no] := s.forget rfl fun i c h => by
  match i, h with
  | 0, h | 1, h | 2, h | 3, h | 5, h | 6, h => exact .inr h
  | 4, h => exact .inl (Option.some.inj h).symm
  | i + 7, h => simp at h
theorem forget7' {c0 c2 c3 : D} (s : Sim K M G H σ [.fr c0, .no, .fr c2, .fr c3, .no, .no, .no]) : Sim K M G H σ [.fr c0, .no, .no, .no, .no, .no, .no] := s.forget rfl fun i c h => by
  match i, h with
  | 0, h | 1, h | 4, h | 5, h | 6, h => exact .inr h
  | 2, h | 3, h => exact .inl (Option.some.inj h).symm
  | i + 7, h => simp at h
/-- the inner loop -/
theorem leaf_run (hs : Spec Rs PreSt PostSt) (hw : Spec Rw PreWo PostWo) {L : D} {p : Addr} {i : Nat} {ws : List Str} {n : Nat} {kds : KD} {c : Nat} (hg : GoodW ws) (hl : ws.length = n) (hn : n ≤ 50) (hf : Few c kds) (hc : c + n + 1 ≤ 3000)
    (fr : Fresh M H0) (I : LW K M G0 H0 G p [.fr L, .no, .fr (.int (i : Int)), .fr (.str (pathS ws)), .no, .no, .no] kds G H σ)
    (q : ∀ G' H' σ', LW K M G0 H0 G p [.fr L, .no, .no, .no, .no, .no, .no] (addLeaf (i : Int) ws (n + 1) kds) G' H' σ' → E.nx σ' H') : b__leaves_by_member_3 K Rs Rw E σ H := by
  obtain ⟨f, w⟩ := I.w
  have e : ((((ws).map D.str).length : Int) + 1).toNat = n + 1 := by rw [List.length_map, hl]; omega
  unfold b__leaves_by_member_3 tFor
  refine fw_it (it_range1 (n := ((ws.map D.str).length : Int) + 1) (ag_cons (ev_add (ev_lenL (EvN.rd (en_words hw hg (by omega) (ev_var (i := 3) rfl)))) ev_int) ag_nil) ?_) I.s nomu7' nomu7' w _ fun J G1 H1 g1 s1 w1 wk => ?_
  · rw [List.length_map, hl]; omega
  rw [e] at wk
  refine for_run (I := fun j G' H' σ' => j ≤ n + 1 ∧ Ex G1 G' ∧ LW K M G0 H0 G p [.fr L, .no, .fr (.int (i : Int)), .fr (.str (pathS ws)), .no, .no, .no] (addLeaf (i : Int) ws j kds) G' H' σ') wk ⟨Nat.zero_le _, Ex.refl _, I.e.trans g1.g, I.g.trans g1.off, s1, I.at1, f, w1⟩ (fun j G' H' σ' h => ⟨h.2.1, h.2.2.s.sub⟩) (fun j x hx G2 H2 G3 H3 σ2 v ⟨hj, he, h⟩ g3 e3 dv nx hnx => ?_) fun G' H' σ' ⟨_, _, h⟩ => ?_
  · obtain ⟨k, hk, rfl⟩ := rangeD_get (List.mem_of_getElem? hx)
    have ek : k = j := by
      unfold rangeD at hx
      rw [List.getElem?_map] at hx
      cases hr : (List.range (n + 1))[j]? with
      | none => rw [hr] at hx; cases hx
      | some y =>
        rw [hr] at hx
        have e1 : D.int (0 + (y : Int)) = D.int (0 + (k : Int)) := Option.some.inj hx
        have e2 : y = j := by
          obtain ⟨lt, ey⟩ := List.getElem?_eq_some_iff.mp hr
          rw [List.getElem_range] at ey
          exact ey.symm
        injection e1 with e1
        omega
    subst ek
    obtain ⟨f2, w2⟩ := h.w
    have S3 := h.s.after g3 e3
    have w3 : FW p f2 M G3 H3 _ := w2.grow (fun _ _ z => z) g3
    have fr3 : Fresh M H3 := (fr.grow h.g).grow (g3.wk fun _ _ z => z.elim)
    have dv' : Dz K G3 v (.int (k : Int)) := by rw [Int.zero_add] at dv; exact dv
    refine tg_name (i := 4) M G3 H3 σ2 v S3 dv' _ fun σ4 l4 k4 s4 => ?_
    have at4 : σ4[1]? = some (some (.ref p)) := (k4 1 (by decide)).trans h.at1
    have few := hf.leaf (i : Int) ws k
    refine fw_step (i := 1) (k := pathS (ws.take k)) (n := (i : Int)) (ev_start hs hg (by omega) (ev_var (i := 3) rfl) (ev_var (i := 4) rfl)) (ev_var (i := 2) rfl) s4 fr3 nomu7 at4 w3 ⟨by have := few.l; omega, fun y hy => by have := few.p y hy; omega⟩ fun f' G5 H5 g5 s5 w5 => ?_
    exact hnx G5 H5 σ4 ⟨by omega, (he.trans g3.g).trans g5.g, (h.e.trans g3.g).trans g5.g, (h.g.trans (g3.wk fun _ _ z => z.elim)).trans g5, forget7 s5, at4, f', w5⟩
  · have el : (rangeD 0 (n + 1)).length = n + 1 := rangeD_len ..
    rw [el] at h
    exact q G' H' σ' ⟨h.e, h.g, forget7' h.s, h.at1, h.w⟩
theorem enum_paths : ∀ (i : Nat) (lv : List (List Str)) (j : Nat) (x : D), (enumD i (lv.map fun ws => D.str (pathS ws)))[j]? = some x → ∃ ws, lv[j]? = some ws ∧ x = .tup [.int ((i + j : Nat) : Int), .str (pathS ws)] := fun i lv j x h => by
  obtain ⟨d, h1, rfl⟩ := enumD_get h
  rw [List.getElem?_map] at h1
  cases hw : lv[j]? with
  | none => rw [hw] at h1; cases h1
  | some ws =>
    rw [hw] at h1
    cases h1
    exact ⟨ws, rfl, rfl⟩
theorem addLeaves_snoc (m : Nat) : ∀ (lv : List (List Str)) (i : Nat) (ws : List Str) (kds : KD), addLeaves m i (lv ++ [ws]) kds = addLeaf ((i + lv.length : Nat) : Int) ws m (addLeaves m i lv kds)
  | [], i, ws, kds => rfl
  | y :: lv, i, ws, kds => by
    show addLeaves m (i + 1) (lv ++ [ws]) (addLeaf (i : Int) y m kds) = _
    rw [addLeaves_snoc m lv (i + 1) ws, show i + 1 + lv.length = i + (lv.length + 1) by omega]
    rfl
theorem few_leaves (m : Nat) : ∀ (lv : List (List Str)) (i c : Nat) (kds : KD), Few c kds → Few (c + lv.length * m) (addLeaves m i lv kds)
  | [], i, c, kds, h => by rw [List.length_nil, Nat.zero_mul]; exact h
  | y :: lv, i, c, kds, h => by
    have q := few_leaves m lv (i + 1) (c + m) (addLeaf (i : Int) y m kds) (h.leaf _ _ m)
    rw [List.length_cons, Nat.succ_mul, show c + (lv.length * m + m) = c + m + lv.length * m by omega]
    exact q
def PostLb (cs : List Cell) (r : Cell) (cs' : List Cell) : Prop := cs' = cs ∧ ∀ (lv : List (List Str)) (n : Nat), 1 ≤ lv.length → (∀ ws ∈ lv, GoodW ws ∧ ws.length = n) → cs = [.fr (lvD lv)] → r = .fr (.dK (kdD (lbm lv (n + 1))))
def PreLb (cs : List Cell) : Prop := ∃ (lv : List (List Str)) (n : Nat), cs = [.fr (lvD lv)] ∧ 1 ≤ lv.length ∧ lv.length ≤ 40 ∧ n ≤ 20 ∧ ∀ ws ∈ lv, GoodW ws ∧ ws.length = n
theorem sem_leaves (hs : Spec Rs PreSt PostSt) (hw : Spec Rw PreWo PostWo) : Spec (RelOf K [] (t__leaves_by_member K Rs Rw) 7 1) PreLb PostLb := by
  rintro _ ⟨lv, n, rfl, h1, h2, h3, hg⟩
  have key : ∃ ρ2, ExZ K [] (t__leaves_by_member K Rs Rw) [.fr (lvD lv), .no, .no, .no, .no, .no, .no] (.rt ρ2 (.fr (.dK (kdD (lbm lv (n + 1)))))) := by
    refine ⟨[.fr (lvD lv), .no, .no, .no, .no, .no, .no], fun M G0 H0 σ0 E fr S q => ?_⟩
    unfold t__leaves_by_member tSeq
    refine ex_setDK (K := K) (S := []) (i := 1) (by decide) M G0 H0 σ0 _ fr S fun G1 H1 σ1 g1 _ s1 => ?_
    obtain ⟨p, o, e1, m1, gp, hp, mk⟩ := s1.mu (i := 1) rfl
    obtain ⟨vs, rfl, dz⟩ := mok_dK mk
    cases dz
    have S1 : Sim K M G1 H1 σ1 [.fr (lvD lv), .no, .no, .no, .no, .no, .no] := s1.forget rfl fun i c h => by
      match i, h with
      | 0, h | 2, h | 3, h | 4, h | 5, h | 6, h => exact .inr h
      | 1, h => exact .inl (Option.some.inj h).symm
      | i + 7, h => simp at h
    have W1 : FW p (fun _ => 0) M G1 H1 [] := ⟨m1, gp, hp, fun _ h => (by cases h), fun _ h => (by cases h), .nil, ⟨by decide, fun _ h => (by cases h)⟩⟩
    have len7 : (enumD 0 (lv.map fun ws => D.str (pathS ws))).length = lv.length := by rw [enumD_len, List.length_map]
    dsimp only
    unfold tFor
    refine fw_it (it_enumT (ag_cons (ev_var (i := 0) rfl) ag_nil)) S1 nomu7'' nomu7'' W1 _ fun J G2 H2 g2 s2 w2 wk => ?_
    refine for_run (I := fun j G' H' σ' => j ≤ lv.length ∧ LW K M G0 H0 G2 p [.fr (lvD lv), .no, .no, .no, .no, .no, .no] (addLeaves (n + 1) 0 (lv.take j) []) G' H' σ') wk ⟨Nat.zero_le _, Ex.refl _, g1.trans g2.off, s2, e1, _, w2⟩ (fun j G' H' σ' h => ⟨h.2.e, h.2.s.sub⟩) (fun j x hx G3 H3 G4 H4 σ4 v ⟨hj, h⟩ g4 e4 dv nx hnx => ?_) fun G' H' σ' ⟨_, h⟩ => ?_
    · obtain ⟨ws, hws, rfl⟩ := enum_paths _ _ _ _ hx
      obtain ⟨lt, ew⟩ := List.getElem?_eq_some_iff.mp hws
      have mw : ws ∈ lv := ew ▸ List.getElem_mem lt
      obtain ⟨f, w⟩ := h.w
      have fr4 : Fresh M H4 := (fr.grow h.g).grow (g4.wk fun _ _ z => z.elim)
      refine tg_tup (K := K) rfl (tgs_cons (tg_name (i := 2)) (tgs_cons (tg_name (i := 3)) tgs_nil)) M G4 H4 σ4 v (h.s.after g4 e4) dv _ fun σ5 l5 k5 s5 => ?_
      have I5 : LW K M G0 H0 G2 p [.fr (lvD lv), .no, .fr (.int ((0 + j : Nat) : Int)), .fr (.str (pathS ws)), .no, .no, .no] (addLeaves (n + 1) 0 (lv.take j) []) G4 H4 σ5 := ⟨h.e.trans g4.g, h.g.trans (g4.wk fun _ _ z => z.elim), s5, (k5 1 (by decide)).trans h.at1, f, w.grow (fun _ _ z => z) g4⟩
      have hlt : (lv.take j).length = j := by rw [List.length_take]; omega
      have few := few_leaves (n + 1) (lv.take j) 0 0 [] ⟨Nat.le_refl _, fun _ z => by cases z⟩
      rw [hlt] at few
      have hm : j * (n + 1) ≤ 40 * 21 := Nat.mul_le_mul (by omega) (by omega)
      refine leaf_run (G := G4) (M := M) (G0 := G0) (H0 := H0) (p := p) (L := lvD lv) (i := 0 + j) hs hw (hg ws mw).1 (hg ws mw).2 (by omega) few (by omega) fr ?_ fun G6 H6 σ6 h6 => hnx G6 H6 σ6 ⟨lt, ?_⟩
      · exact ⟨Ex.refl _, I5.g, I5.s, I5.at1, I5.w⟩
      · have e7 : lv.take (j + 1) = lv.take j ++ [ws] := by rw [List.take_add_one, hws]; rfl
        rw [e7, addLeaves_snoc, hlt]
        exact ⟨I5.e.trans h6.e, h6.g, h6.s, h6.at1, h6.w⟩
    · rw [len7, List.take_length] at h
      obtain ⟨f, w⟩ := h.w
      dsimp only
      unfold tRet
      refine fw_items (K := K) (i := 1) (a := 5) (b := 6) (by decide) rfl rfl h.s nomu7'' h.at1 w _ fun v G5 H5 g5 s5 dz => ?_
      exact q v G5 H5 σ' (h.g.trans g5) (fun i hi => by cases hi) s5 dz
  obtain ⟨ρ2, h⟩ := key
  refine ⟨_, _, ⟨rfl, ρ2, .inl h, fin_fr (ds := [lvD lv])⟩, rfl, fun lv' n' h1' hg' e => ?_⟩
  injection e with e
  injection e with e
  injection e with e
  have el := paths_inj (fun ws h => (hg ws h).1) (fun ws h => (hg' ws h).1) e
  subst el
  have h0 : 0 < lv.length := h1
  have := (hg' _ (List.getElem_mem h0)).2
  rw [← this, (hg _ (List.getElem_mem h0)).2]
end
end Z

set_option Elab.async false
set_option linter.all false
set_option maxRecDepth 100000
set_option maxHeartbeats 2000000
/-! SpE: Space.__init__ and the methods. -/
namespace Z
open PySem PySem.Spec PyProof.Rows L2
open Evl (Ex Ex.refl Ex.trans Ex.new ex_rd ex_l ex_t sq_of st_of fresh_back sz_of sz_lt)
def Dm.dep (d : Dm) : Nat := (d.leaves.headD []).length
theorem Dm.Good.dep {d : Dm} {n : Nat} (h : d.Good n) : d.dep = n := by
  have h0 : 0 < d.leaves.length := by have := h.few; omega
  unfold Dm.dep
  cases e : d.leaves with
  | nil => rw [e] at h0; cases h0
  | cons ws l => exact h.depth ws (by rw [e]; exact List.mem_cons_self)
theorem GoodDs.at_ {ds : List Dm} (g : GoodDs ds) {d : Dm} (h : d ∈ ds) : d.Good d.dep := by
  obtain ⟨n, hn⟩ := g.good d h
  rw [hn.dep]
  exact hn
def lvlD (ds : List Dm) : D := .lst (ds.map fun d => .lst (levelsD d.leaves (d.dep + 1)))
def lvsD (ds : List Dm) : D := .lst (ds.map fun d => .dK (kdD (lbm d.leaves (d.dep + 1))))
def prtD (ds : List Dm) : D := .lst ((choicesD (ds.map fun d => rangeD 0 d.leaves.length)).map .tup)
def celS (ds : List Dm) : List (List Str) := choicesD (ds.map Dm.paths)
def celT (c : List Str) : D := .tup (c.map .str)
def celD (ds : List Dm) : D := .lst ((celS ds).map celT)
/-- the numbers of the cells -/
def numA : Nat → List (List Str) → List (List Key × D) → List (List Key × D)
  | _, [], acc => acc
  | i, c :: cs, acc => numA (i + 1) cs (putD acc (c.map .inr) (.int (i : Int)))
def numD (ds : List Dm) : D := .dT (numA 0 (celS ds) [])
def spF (ds : List Dm) : List (Str × D) := [("dimensions", dimsD ds), ("_levels", lvlD ds), ("_leaves", lvsD ds), ("_parts", prtD ds), ("_cells", celD ds), ("_numbers", numD ds), ("many", .int (((celS ds).map celT).length : Int))]
def spD (C : Addr) (ds : List Dm) : D := .ins C (spF ds)
def spNames : List Str := ["dimensions", "_levels", "_leaves", "_parts", "_cells", "_numbers", "many"]
theorem prodN_dims (b : Bool) (u : Dm → List D) (h : ∀ d, (u d).length = d.leaves.length) : ∀ ds : List Dm, prodN (ds.map fun d => (b, u d)) = cellsN ds
  | [] => rfl
  | d :: ds => by
    show (u d).length * prodN (ds.map fun d => (b, u d)) = _
    rw [prodN_dims b u h ds, h]
    rfl
theorem choices_len {α : Type} : ∀ (rows : List (List α)) (found : List (List α)), (rows.foldl consE found).length = found.length * (rows.map List.length).foldr (· * ·) 1
  | [], found => (Nat.mul_one _).symm
  | r :: rows, found => by
    rw [List.foldl_cons, choices_len rows, consE_len, List.map_cons, List.foldr_cons, Nat.mul_assoc]
theorem celS_len (ds : List Dm) : (celS ds).length = cellsN ds := by
  unfold celS choicesD
  rw [choices_len]
  rw [List.length_singleton, Nat.one_mul]
  induction ds with
  | nil => rfl
  | cons d ds ih =>
    rw [List.map_cons, List.map_cons, List.foldr_cons, ih]
    unfold Dm.paths
    rw [List.length_map]
    rfl
section
variable {K : PySem.W.Frag}
/-- [f(leaves) for _, leaves in dimensions] -/
theorem dims_comp {te : TE} {f : Dm → D} {c0 : Cell} {ds : List Dm} (h : ∀ d ∈ ds, EvZ K te [c0, .fr (dimsD ds), .fr (.str d.name), .fr d.tupD, .no] [c0, .fr (dimsD ds), .fr (.str d.name), .fr d.tupD, .no] (f d)) (hl : ds.length ≤ 90) :
    EvN K (tLc (iTup K (tVar 1)) (gTup K 2 (gCons (gName 2) (gCons (gName 3) gNil))) tYes te [2, 3]) [c0, .fr (dimsD ds), .no, .no, .no] [c0, .fr (dimsD ds), .no, .no, .no] (ds.map f) := by
  refine en_lc (A := [2, 3]) (ρ' := [c0, .fr (dimsD ds), .no, .no, .no]) (it_tup (ds := ds.map Dm.d) (ev_var (i := 1) rfl)) ?_ (by decide) (by rw [List.length_map]; omega)
  exact comp_mapP (K := K) (ρ := [c0, .fr (dimsD ds), .no, .no, .no]) (a := 2) (b := 3) (by decide) (fun d => D.str d.name) Dm.tupD f rfl rfl ds h
theorem num_comp {Rl Rm Rc Rh : Rel} {c0 c1 c2 : Cell} : ∀ (cs : List (List Str)) (i : Nat) (acc : List (List Key × D)), CompDT K (gTup K 2 (gCons (gName 4) (gCons (gName 3) gNil))) tYes (k_Space___init___1 K Rl Rm Rc Rh) (v_Space___init___1 K Rl Rm Rc Rh) [4, 3] [4, 3] (enumD i (cs.map celT)) [c0, c1, c2, .no, .no] acc (numA i cs acc) [c0, c1, c2, .no, .no]
  | [], i, acc => .nil
  | c :: cs, i, acc => by
    have ek : (c.map (.inr : Str → Key)).map keyD = c.map D.str := by rw [List.map_map]; rfl
    refine .yes (k := c.map .inr) (r := .int (i : Int)) (tg_tup rfl (tgs_cons tg_name (tgs_cons tg_name tgs_nil))) ts_yes (ρ3 := [c0, c1, c2, .fr (celT c), .fr (.int (i : Int))]) ?_ (notz_strs c) (ev_var (i := 4) rfl) (num_comp cs (i + 1) _)
    rw [ek]
    exact ev_var (i := 3) rfl
end
end Z

set_option Elab.async false
set_option linter.all false
set_option maxRecDepth 100000
set_option maxHeartbeats 2000000
/-! SpF: members, the leaves below them, their numbers: facts, without the program. -/
namespace Z
open PySem PySem.Spec PyProof.Rows L2
/-! ### the leaves by their members -/
/-- the numbers of the leaves below us -/
def hits (us : List Str) : Nat → List (List Str) → List Int
  | _, [] => []
  | i, ws :: lv => if ws.take us.length = us then (i : Int) :: hits us (i + 1) lv else hits us (i + 1) lv
/-! ### the pairs (leaf, number of its member) -/
def pairs (lv : List (List Str)) (l : Nat) : Nat → List (List Str) → List (Int × Int)
  | _, [] => []
  | k, us :: ms => ((hits us 0 lv).map fun x => (x, (k : Int))) ++ pairs lv l (k + 1) ms
end Z

set_option Elab.async false
set_option linter.all false
set_option maxRecDepth 100000
set_option maxHeartbeats 2000000
/-! SpG: the numbers of members, level by level. -/
namespace Z
open PySem PySem.Spec PyProof.Rows L2
def posW : List (List Str) → List Str → Nat
  | [], _ => 0
  | u :: us, x => if u = x then 0 else posW us x + 1
structure Lv (lv : List (List Str)) (n : Nat) : Prop where
  g : ∀ ws ∈ lv, GoodW ws ∧ ws.length = n
def memW (lv : List (List Str)) (l : Nat) : List (List Str) := (memL lv l).map wordsS
section
variable {lv : List (List Str)} {n l : Nat}
end
end Z

set_option Elab.async false
set_option linter.all false
set_option maxRecDepth 100000
set_option maxHeartbeats 2000000
/-! SpH: the methods; check_grouping, _member_numbers, group_numbers, coarser, meet, join. -/
namespace Z
open PySem PySem.Spec PyProof.Rows L2
open Evl (Ex Ex.refl Ex.trans Ex.new ex_rd ex_l ex_t sq_of st_of fresh_back sz_of sz_lt)
theorem GoodDs.lv {ds : List Dm} (g : GoodDs ds) {d : Dm} (h : d ∈ ds) : Lv d.leaves d.dep := ⟨fun ws hw => ⟨(g.at_ h).words ws hw, (g.at_ h).depth ws hw⟩⟩
section
variable {K : PySem.W.Frag} {C : Addr}
/-- a def that ends by a return: its relation -/
theorem rel_rt {t : TS} {n : Nat} {ds : List D} {r : Cell} (h : ∃ ρ2, ExZ K [] t (ds.map .fr ++ List.replicate (n - ds.length) .no) (.rt ρ2 r)) : RelOf K [] t n ds.length (ds.map .fr) r (ds.map .fr) := by
  obtain ⟨ρ2, h⟩ := h
  exact ⟨List.length_map .., ρ2, .inl h, fin_fr⟩
/-! ### check_grouping -/
/-! ### _member_numbers, group_numbers -/
end
end Z

set_option Elab.async false
set_option linter.all false
set_option maxRecDepth 100000
set_option maxHeartbeats 2000000
/-! ZNum: great numbers (products, quotients of either sign, remainders), gcd, abs, max, texts of numbers, f-strings, while. -/
namespace Z
open PySem PySem.Spec PyProof.Rows L2
open Evl (Ex Ex.refl Ex.trans Ex.new ex_rd ex_l ex_t sq_of st_of fresh_back sz_of sz_lt)
variable {K : PySem.W.Frag} {S : List Nat} {ρ ρ' ρ1 ρ2 ρ3 : Rho} {ta tb tc te tl : TE} {tt tu : TT} {ts us : TS} {d e x y : D} {ds es xs ys rs : List D} {b c : Bool} {o : Out}
/-! ### while -/
inductive WhileZ (K : PySem.W.Frag) (S : List Nat) (tt : TT) (tb : TS) : Nat → Rho → Out → Prop
  | stop {n : Nat} {ρ ρ1 : Rho} : TsZ K tt ρ ρ1 false → WhileZ K S tt tb n ρ (.nx ρ1)
  | step {n : Nat} {ρ ρ1 ρ2 : Rho} {o : Out} : TsZ K tt ρ ρ1 true → ExZ K S tb ρ1 (.nx ρ2) → WhileZ K S tt tb n ρ2 o → WhileZ K S tt tb (n + 1) ρ o
  | cont {n : Nat} {ρ ρ1 ρ2 : Rho} {o : Out} : TsZ K tt ρ ρ1 true → ExZ K S tb ρ1 (.ct ρ2) → WhileZ K S tt tb n ρ2 o → WhileZ K S tt tb (n + 1) ρ o
  | brk {n : Nat} {ρ ρ1 ρ2 : Rho} : TsZ K tt ρ ρ1 true → ExZ K S tb ρ1 (.bk ρ2) → WhileZ K S tt tb n ρ (.nx ρ2)
  | ret {n : Nat} {ρ ρ1 ρ2 : Rho} {c : Cell} : TsZ K tt ρ ρ1 true → ExZ K S tb ρ1 (.rt ρ2 c) → WhileZ K S tt tb n ρ (.rt ρ2 c)
end Z

set_option Elab.async false
set_option linter.all false
set_option maxRecDepth 100000
set_option maxHeartbeats 2000000
/-! ZMut: an instance that the frame alone changes: its methods, its fields, and how it is made. -/
namespace Z
open PySem PySem.Spec PyProof.Rows L2
open Evl (Ex Ex.refl Ex.trans Ex.new ex_rd ex_l ex_t sq_of st_of fresh_back sz_of sz_lt)
section
variable {K : PySem.W.Frag} {S : List Nat} {ρ ρ' ρ1 ρ2 : Rho} {ta tb te tv : TE} {tx : TA} {ds : List D} {d : D} {C : Addr} {m f : Str}
end
end Z

set_option Elab.async false
set_option linter.all false
set_option maxRecDepth 100000
set_option maxHeartbeats 2000000
/-! ZExc: exceptions by cells: what raises, what is called and may raise, try with one clause. -/
namespace Z
open PySem PySem.Spec PyProof.Rows L2
open Evl (Ex Ex.refl Ex.trans Ex.new ex_rd ex_l ex_t sq_of st_of fresh_back sz_of sz_lt)

/-- an exception: its class, and its own fields (none: it has no dict) -/
structure Exn where
  cls : Value
  fs : Option (List (Str × D))
def XdOk (K : PySem.W.Frag) (G : Hp) (d : Option Addr) : Option (List (Str × D)) → Prop
  | none => d = none
  | some fs => ∃ dd vs, d = some dd ∧ G dd = some (.xd vs) ∧ DzF K G vs fs
theorem XdOk.mono {K : PySem.W.Frag} {G G' : Hp} {d : Option Addr} (e : Ex G G') : ∀ {fs : Option (List (Str × D))}, XdOk K G d fs → XdOk K G' d fs
  | none, h => h
  | some fs, h => by
    obtain ⟨dd, vs, rfl, h1, h2⟩ := h
    exact ⟨dd, vs, rfl, e _ _ h1, h2.mono e⟩
def EvX (K : PySem.W.Frag) (W : WX) (te : TE) (ρ ρ' : Rho) (e : Exn) : Prop := ∀ M G H σ, Sim K M G H σ ρ → ∀ Q : VK, (∀ d G' H', Grow M G H G' H' → Sim K M G' H' σ ρ' → XdOk K G' d e.fs → W e.cls d σ H') → te σ H Q
def ExX (K : PySem.W.Frag) (S : List Nat) (W : WX) (ts : TS) (ρ ρ' : Rho) (e : Exn) : Prop := ∀ M G H σ (E : Ends), Fresh M H → Sim K M G H σ ρ → (∀ d G' H' σ', Grow M G H G' H' → Keep S σ σ' → Sim K M G' H' σ' ρ' → XdOk K G' d e.fs → W e.cls d σ' H') → ts E σ H
section
variable {K : PySem.W.Frag} {S : List Nat} {W : WX} {ρ ρ' ρ1 ρ2 : Rho} {te : TE} {tt : TT} {ts us : TS} {g : TG} {e : Exn} {ds : List D}
theorem xx_seq (h : ExZ K S ts ρ (.nx ρ1)) (k : ExX K S W us ρ1 ρ2 e) : ExX K S W (tSeq ts us) ρ ρ2 e := fun M G H σ E f s q => h M G H σ { E with nx := us E } f s fun G1 H1 σ1 g1 k1 s1 =>
  k M G1 H1 σ1 E (f.grow g1) s1 fun d G2 H2 σ2 g2 k2 s2 x => q d G2 H2 σ2 (g1.trans g2) (k1.trans k2) s2 x
theorem xx_seqX (h : ExX K S W ts ρ ρ1 e) : ExX K S W (tSeq ts us) ρ ρ1 e := fun M G H σ E f s q => h M G H σ { E with nx := us E } f s q
theorem xx_ifT (h : TsZ K tt ρ ρ1 true) (k : ExX K S W ts ρ1 ρ2 e) : ExX K S W (tIfS tt ts us) ρ ρ2 e := fun M G H σ E f s q => h M G H σ s _ fun G1 H1 g1 s1 => by
  rw [if_pos rfl]
  exact k M G1 H1 σ E (f.grow g1) s1 fun d G2 H2 σ2 g2 k2 s2 x => q d G2 H2 σ2 (g1.trans g2) k2 s2 x
theorem xx_asg (h : EvX K W te ρ ρ1 e) : ExX K S W (tAsg te g) ρ ρ1 e := fun M G H σ E f s q => h M G H σ s _ fun d G1 H1 g1 s1 x => q d G1 H1 σ g1 .refl s1 x
theorem xx_drop (h : EvX K W te ρ ρ1 e) : ExX K S W (tDrop te) ρ ρ1 e := fun M G H σ E f s q => h M G H σ s _ fun d G1 H1 g1 s1 x => q d G1 H1 σ g1 .refl s1 x
/-- raise C(), C without an own __init__ -/
def tRaise0 (C : Addr) (W : WX) : TS := fun _ σ H => W (.ref C) none σ H
theorem xx_raise0 {C : Addr} : ExX K S W (tRaise0 C W) ρ ρ ⟨.ref C, none⟩ := fun M G H σ E f s q => q none G H σ .refl .refl s rfl
/-- a loop in which a turn raises -/
inductive LoopX (K : PySem.W.Frag) (S : List Nat) (W : WX) (g : TG) (tb : TS) (A : List Nat) : List D → Rho → Rho → Exn → Prop
  | step {ρ ρ1 ρ2 ρ3 : Rho} {d : D} {ds : List D} {e : Exn} : TgZ K g A d ρ ρ1 → ExZ K S tb ρ1 (.nx ρ2) → LoopX K S W g tb A ds ρ2 ρ3 e → LoopX K S W g tb A (d :: ds) ρ ρ3 e
  | here {ρ ρ1 ρ2 : Rho} {d : D} {ds : List D} {e : Exn} : TgZ K g A d ρ ρ1 → ExX K S W tb ρ1 ρ2 e → LoopX K S W g tb A (d :: ds) ρ ρ2 e
theorem xx_for {wi : TI} {tb : TS} {A : List Nat} (hi : ItZ K wi ρ ρ1 ds) (hl : LoopX K S W g tb A ds ρ1 ρ2 e) (hA : ∀ i ∈ A, i ∉ S) : ExX K S W (tFor wi g tb) ρ ρ2 e := fun M G H σ E f s q =>
  hi M G H σ s _ fun J G1 H1 g1 s1 wk => by
    refine ⟨fun i m σ' H' => i ≤ ds.length ∧ m = ds.length - i ∧ ∃ Gi ρi, Grow M G1 H1 Gi H' ∧ Keep S σ σ' ∧ Sim K M Gi H' σ' ρi ∧ LoopX K S W g tb A (ds.drop i) ρi ρ2 e, ⟨ds.length, Nat.zero_le _, rfl, G1, ρ1, .refl, .refl, s1, hl⟩, ?_⟩
    rintro i m σi Hi ⟨hle, rfl, Gi, ρi, gi, ki, si, li⟩
    obtain ⟨w1, w2⟩ := wk Gi Hi gi.g si.sub
    cases hit : ds[i]? with
    | none =>
      have hge : ds.length ≤ i := List.getElem?_eq_none_iff.mp hit
      rw [List.drop_eq_nil_of_le hge] at li
      cases li
    | some d =>
      obtain ⟨hlt, ed⟩ := List.getElem?_eq_some_iff.mp hit
      obtain ⟨hgo, hy⟩ := w1 i d hit
      rw [List.drop_eq_getElem_cons hlt, ed] at li
      refine .inr ⟨hgo, fun σ' H' => ∃ Gi ρi, Grow M G1 H1 Gi H' ∧ Keep S σ σ' ∧ Sim K M Gi H' σ' ρi ∧ LoopX K S W g tb A (ds.drop (i + 1)) ρi ρ2 e, fun σ' H' w => ⟨ds.length - (i + 1), by omega, by omega, rfl, w⟩, fun x H' yl => ?_⟩
      obtain ⟨G2, g2, s2, dx⟩ := hy x H' yl
      have S2 : Sim K M G2 H' σi ρi := si.grow s2 g2.g fun p es j e1 e2 => by
        obtain ⟨p', us, e', m, gp, hp, dz⟩ := si.mu e1
        rw [e2] at e'
        cases e'
        exact ⟨(g2.k p _ (fun z => z) hp).trans hp.symm, g2.n p (fun z => z) (by rw [hp]; simp) gp⟩
      have ga : Grow M G1 H1 G2 H' := gi.trans (g2.wk fun a _ z => z.elim)
      have fr2 : Fresh M H' := f.grow (g1.trans ga)
      cases li with
      | step t1 t2 t3 =>
        refine t1 M G2 H' σi x S2 dx _ fun σa la ka Sa => t2 M G2 H' σa _ fr2 Sa fun G3 H3 σ3 g3 k3 s3 => ⟨G3, _, ga.trans g3, (ki.trans (keep_of ka hA)).trans k3, s3, t3⟩
      | here t1 t2 =>
        refine t1 M G2 H' σi x S2 dx _ fun σa la ka Sa => t2 M G2 H' σa _ fr2 Sa fun d G3 H3 σ3 g3 k3 s3 x3 => q d G3 H3 σ3 ((g1.trans ga).trans g3) ((ki.trans (keep_of ka hA)).trans k3) s3 x3
end

/-! ### a def that may raise -/
abbrev RelX := List Cell → Exn → List Cell → Prop
def SpX (K : PySem.W.Frag) (R : Rel) (RX : RelX) : Sp := fun vs H Q E => SpZ K R vs H Q E ∨ ∃ M G cs e cs', Sim K M G H (vs.map some) cs ∧ RX cs e cs' ∧ ∀ d G' H', Grow M G H G' H' → Sim K M G' H' (vs.map some) cs' → XdOk K G' d e.fs → E e.cls d H'
theorem spx_len {K : PySem.W.Frag} {R : Rel} {RX : RelX} {n : Nat} (hR : ∀ cs r cs', R cs r cs' → cs.length = n) (hX : ∀ cs e cs', RX cs e cs' → cs.length = n) : ∀ vs H Q E, SpX K R RX vs H Q E → vs.length = n := fun vs H Q E h => by
  rcases h with h | ⟨M, G, cs, e, cs', s, hx, _⟩
  · exact spz_len hR vs H Q E h
  · have := s.len
    rw [List.length_map] at this
    rw [this]
    exact hX _ _ _ hx
def RelOfE (K : PySem.W.Frag) (S : List Nat) (t : XK → TS) (n m : Nat) : Rel := fun cs r cs' => cs.length = m ∧ ∃ ρ', ((∀ E, ExZ K S (t E) (cs ++ List.replicate (n - m) .no) (.rt ρ' r)) ∨ (r = .fr .non ∧ ∀ E, ExZ K S (t E) (cs ++ List.replicate (n - m) .no) (.nx ρ'))) ∧ FinZ S cs cs' ρ' r
abbrev wOf (E : XK) : WX := fun cls d _ H => E cls d H
def RelOfX (K : PySem.W.Frag) (S : List Nat) (t : XK → TS) (n m : Nat) : RelX := fun cs e cs' => cs.length = m ∧ ∃ ρ', (∀ E : XK, ExX K S (wOf E) (t E) (cs ++ List.replicate (n - m) .no) ρ' e) ∧ FinZ S cs cs' ρ' (.fr .non)
section
variable {K : PySem.W.Frag}
theorem body_zx {N : List Str} {vs : List V} {H : Hp} {Q : VK} {E : XK} {R : Rel} {RX : RelX} {t : XK → TS} (S : List Nat) (h : SpX K R RX vs H Q E)
    (hb : ∀ cs r cs', R cs r cs' → ∃ ρ', (ExZ K S (t E) (cs ++ List.replicate (N.length - cs.length) .no) (.rt ρ' r) ∨ (r = .fr .non ∧ ExZ K S (t E) (cs ++ List.replicate (N.length - cs.length) .no) (.nx ρ'))) ∧ FinZ S cs cs' ρ' r)
    (hx : ∀ cs e cs', RX cs e cs' → ∃ ρ', ExX K S (wOf E) (t E) (cs ++ List.replicate (N.length - cs.length) .no) ρ' e ∧ FinZ S cs cs' ρ' (.fr .non)) : t E { nx := fun _ H' => Q .non H', rt := Q } (L2.start N vs) H := by
  rcases h with h | ⟨M0, G, cs, e, cs', s, hR, q⟩
  · exact body_z S h hb
  · obtain ⟨ρ', hx, fin⟩ := hx cs e cs' hR
    have el : vs.length = cs.length := by have := s.len; rw [List.length_map] at this; exact this
    have st : Sim K (fun a => M0 a ∨ H a = none) G H (L2.start N vs) (cs ++ List.replicate (N.length - cs.length) .no) := by
      unfold L2.start
      rw [el]
      exact sim_start (s.chM fun p _ m => .inl m) _
    refine hx _ G H _ _ (fun a e => .inr e) st fun d G' H' σ' g k s' x => ?_
    have g0 : Grow M0 G H G' H' := g.wk fun a e z => by
      rcases z with z | z
      · exact z
      · exact absurd z e
    have back : ∀ (i : Nat) (ds : MO), cs'[i]? = some (.mu ds) → σ'[i]? = (vs.map some)[i]? ∧ ρ'[i]? = some (.mu ds) := fun i ds h1 => by
      obtain ⟨a, b, es, c⟩ := fin.own i ds h1
      have hi : i < vs.length := by rw [el]; exact (List.getElem?_eq_some_iff.mp c).1
      refine ⟨(k i a).trans ?_, b⟩
      unfold L2.start
      rw [List.getElem?_append_left (by rw [List.length_map]; exact hi)]
    refine q d G' H' g0 ⟨by rw [fin.len]; exact s.len, s'.sub, fun {i d} h1 => ?_, fun {i ds} h1 => ?_, fun {i j ds es p} ne h1 h2 h3 h4 => ?_⟩ x
    · obtain ⟨w, e1, e2⟩ := s.fr (fin.fr i d h1)
      exact ⟨w, e1, e2.mono g.g⟩
    · obtain ⟨a, b⟩ := back i ds h1
      obtain ⟨_, _, es, c⟩ := fin.own i ds h1
      obtain ⟨p, us, e1, m1, g1, h2, dd⟩ := s'.mu b
      obtain ⟨p0, us0, e0, m0, _⟩ := s.mu c
      rw [a, e0] at e1
      cases e1
      exact ⟨p, us, e0, m0, g1, h2, dd⟩
    · obtain ⟨a1, b1⟩ := back i ds h1
      obtain ⟨a2, b2⟩ := back j es h2
      exact s'.apart ne b1 b2 (a1.trans h3) (a2.trans h4)
end
/-- a def, a method that may raise -/
structure Zdex (P : Program) (w : World) (K : PySem.W.Frag) (mg : Str → Option Value) (base : Heap) (k : Nat) (x : Str) (ps : List Str) (R : Rel) (RX : RelX) : Prop where
  ex : ∃ (f : Addr) (fd : FuncData), FnOk P w K mg base (L2N.CX P w) k f fd ps (SpX K R RX) ∧ mg x = some (.ref f) ∧ PySem.W.keepIn K (.ref f) = true ∧ Binds K fd ps [] ∧ ∃ (oc : Value) (od : Option Addr) (osl : Array (Option Value)), K.lookup f = some ⟨oc, od, .func fd, osl⟩
structure Zmex (P : Program) (w : World) (K : PySem.W.Frag) (mg : Str → Option Value) (base : Heap) (k : Nat) (C : Addr) (m : Str) (ps : List Str) (R : Rel) (RX : RelX) : Prop where
  ex : ∃ (f : Addr) (fd : FuncData), FnOk P w K mg base (L2N.CX P w) k f fd ps (SpX K R RX) ∧ Meth K C m f ∧ Binds K fd ps [] ∧ ∃ (oc : Value) (od : Option Addr) (osl : Array (Option Value)), K.lookup f = some ⟨oc, od, .func fd, osl⟩
structure Zmax (P : Program) (w : World) (K : PySem.W.Frag) (mg : Str → Option Value) (base : Heap) (k : Nat) (x : Str) (C : Addr) (ps : List Str) (R : Rel) (RX : RelX) : Prop where
  ex : ∃ (f : Addr) (fd : FuncData), FnOk P w K mg base (L2N.CX P w) k f fd ps (SpX K R RX) ∧ Mk K C f ∧ mg x = some (.ref C) ∧ Binds K fd ps []
section
variable {P : Program} {w : World} {K : PySem.W.Frag} {mg : Str → Option Value} {base : Heap} {x m qual : Str} {st : Stmt} {f C : Addr} {fd : FuncData} {N ps : List Str} {k n l : Nat} {t : XK → TS} {S : List Nat}
theorem fn_zx (F : Fun K x qual st f fd) (Sc : FnScope N ps (defScope st)) (hn : N.length = n) (hp : ps.length = l)
    (h : ∀ (cdv : Value) (A : Around) (outer : List Env) (s : Shared) (H : Hp) (E : XK), Room k (A.deeper (envOfC qual (defScope st) s.heap.objs.size f cdv)) → PSs (cxOf (L2N.CX P w) P w K mg base N qual (defScope st) f cdv A outer s H E) (defBody st) (t E)) :
    FnOk P w K mg base (L2N.CX P w) (k + 1) f fd ps (SpX K (RelOfE K S t n l) (RelOfX K S t n l)) := by
  subst hn
  subst hp
  obtain ⟨oc, od, kV, doc, pm, an, cdv, ct, osl, rfl, lk, hcd⟩ := F.ex
  refine fn_of lk hcd Sc (spx_len (fun _ _ _ h => h.1) fun _ _ _ h => h.1) fun A outer s H vs Q E hr hsp => ⟨t E, h cdv A outer s H E hr, body_zx S hsp (fun cs r cs' hR => ?_) fun cs e cs' hR => ?_⟩
  · obtain ⟨hl, ρ', h1, h2⟩ := hR
    rw [hl]
    refine ⟨ρ', ?_, h2⟩
    rcases h1 with h1 | ⟨h1, h3⟩
    · exact .inl (h1 E)
    · exact .inr ⟨h1, h3 E⟩
  · obtain ⟨hl, ρ', h1, h2⟩ := hR
    rw [hl]
    exact ⟨ρ', h1 E, h2⟩
theorem def_zx (F : Fun K x qual st f fd) (hm : mg x = some (.ref f)) (Sc : FnScope N ps (defScope st)) (hn : N.length = n) (hp : ps.length = l) (b : Binds K fd ps [])
    (h : ∀ (cdv : Value) (A : Around) (outer : List Env) (s : Shared) (H : Hp) (E : XK), Room k (A.deeper (envOfC qual (defScope st) s.heap.objs.size f cdv)) → PSs (cxOf (L2N.CX P w) P w K mg base N qual (defScope st) f cdv A outer s H E) (defBody st) (t E)) :
    Zdex P w K mg base (k + 1) x ps (RelOfE K S t n l) (RelOfX K S t n l) := ⟨f, fd, fn_zx F Sc hn hp h, hm, F.kp, b, Fun.look F⟩
theorem mak_zx (F : Fun K m qual st f fd) (hm : Mk K C f) (hx : mg x = some (.ref C)) (Sc : FnScope N ps (defScope st)) (hn : N.length = n) (hp : ps.length = l) (b : Binds K fd ps [])
    (h : ∀ (cdv : Value) (A : Around) (outer : List Env) (s : Shared) (H : Hp) (E : XK), Room k (A.deeper (envOfC qual (defScope st) s.heap.objs.size f cdv)) → PSs (cxOf (L2N.CX P w) P w K mg base N qual (defScope st) f cdv A outer s H E) (defBody st) (t E)) :
    Zmax P w K mg base (k + 1) x C ps (RelOfE K S t n l) (RelOfX K S t n l) := ⟨f, fd, fn_zx F Sc hn hp h, hm, hx, b⟩
end
/-! ### such a def called -/
theorem takesN0 {X : Cx} : L2N.Takes X (fun _ _ _ _ => False) := fun _ _ x => by
  obtain ⟨_, _, _, _, _, _, _, _, _, _, _, _, _, _, _, _, z⟩ := x
  exact z.elim
section
variable {X : Cx} {k j : Nat} {x m : Str} {C : Addr} {ps : List Str} {R : Rel} {RX : RelX} {o e : Expr} {es : List Expr} {p pos apos : Pos} {to : TE} {t : TA} {W : WX}
theorem pe_callX (G : Zdex X.prog X.w X.K X.mg X.base k x ps R RX) (hr : Room j X.A) (hk : k ≤ j) (tk : L2N.Takes X W) (hg : Gl X x) (ha : PA X (e :: es) t)
    (hdb : (x == ("__debug__" : Str)) = false := by decide) (he : starEach (e :: es) X.env = (false, eval e X.env) :: starEach es X.env := by rfl) (hpl : (backTo pos (starEach es X.env)).any (·.1) = false := by rfl) :
    PE X (.Call (.Name x p) (e :: es) [] pos) (tCallS (SpX X.K R RX) (WE W) t) := by
  obtain ⟨f, fd, h1, h2, h3, h4, _⟩ := G.ex
  exact pe_callS h1 (hr.mono hk) hg h2 h3 h4 (fun σ => L2N.passAt tk σ) ha hdb he hpl
abbrev tMethX (C : Addr) (m : Str) (sp : Sp) (W : WX) (ta : TE) (t : TA) : TE := L2H.tMethH C m sp (WE W) ta t
end
section
variable {K : PySem.W.Frag} {W : WX} {R : Rel} {RX : RelX} {ρ ρ1 ρ2 : Rho} {ta : TE} {tx : TA} {ds : List D} {d : D} {e : Exn} {E : L2.St → XK}
theorem ev_callXF (h : AgZ K tx ρ ρ1 ds) (hR : R (ds.map .fr) (.fr d) (ds.map .fr)) : EvZ K (tCallS (SpX K R RX) E tx) ρ ρ1 d := fun M G H σ S Q q =>
  h M G H σ S _ fun vs G1 H1 g1 s1 dv => .inl ⟨fun _ => False, G1, ds.map .fr, .fr d, ds.map .fr, sim_args dv s1.sub, hR, fun v G' H' g s r => q v G' H' (g1.trans (g.wk fun _ _ z => z.elim)) (s1.after g s.sub) r⟩
theorem ex_callX (h : AgZ K tx ρ ρ1 ds) (hR : RX (ds.map .fr) e (ds.map .fr)) : EvX K W (tCallS (SpX K R RX) (WE W) tx) ρ ρ1 e := fun M G H σ S Q q =>
  h M G H σ S _ fun vs G1 H1 g1 s1 dv => .inr ⟨fun _ => False, G1, ds.map .fr, e, ds.map .fr, sim_args dv s1.sub, hR, fun d G' H' g s r => q d G' H' (g1.trans (g.wk fun _ _ z => z.elim)) (s1.after g s.sub) r⟩
theorem dzF_lookup {G : Hp} {m : Str} : ∀ {xs : List (Str × V)} {fs : List (Str × D)}, DzF K G xs fs → fs.lookup m = none → xs.lookup m = none
  | _, _, .nil, _ => rfl
  | _, _, .cons (k := k) _ hs, h => by
    rw [List.lookup] at h ⊢
    cases e : m == k with
    | true => rw [e] at h; cases h
    | false => rw [e] at h; exact dzF_lookup hs h
theorem ev_methXF {C : Addr} {m : Str} {fs : List (Str × D)} (ho : EvZ K ta ρ ρ1 (.ins C fs)) (hl : fs.lookup m = none) (h : AgZ K tx ρ1 ρ2 ds) (hR : R ((.ins C fs :: ds).map .fr) (.fr d) ((.ins C fs :: ds).map .fr)) : EvZ K (tMethX C m (SpX K R RX) W ta tx) ρ ρ2 d := fun M G H σ S Q q =>
  ho M G H σ S _ fun v G1 H1 g1 s1 dv => by
    obtain ⟨a, dx, xs, rfl, ha, hf⟩ := dv.ins_inv
    refine ⟨a, dx, xs, rfl, s1.sub _ _ ha, dzF_lookup hf hl, h M G1 H1 σ s1 _ fun vs G2 H2 g2 s2 dvs => .inl ?_⟩
    exact ⟨fun _ => False, G2, (.ins C fs :: ds).map .fr, .fr d, (.ins C fs :: ds).map .fr, sim_args (.cons ((Dz.ins ha hf).mono g2.g) dvs) s2.sub, hR, fun v G' H' g s r => q v G' H' ((g1.trans g2).trans (g.wk fun _ _ z => z.elim)) (s2.after g s.sub) r⟩
theorem ex_methX {C : Addr} {m : Str} {fs : List (Str × D)} (ho : EvZ K ta ρ ρ1 (.ins C fs)) (hl : fs.lookup m = none) (h : AgZ K tx ρ1 ρ2 ds) (hR : RX ((.ins C fs :: ds).map .fr) e ((.ins C fs :: ds).map .fr)) : EvX K W (tMethX C m (SpX K R RX) W ta tx) ρ ρ2 e := fun M G H σ S Q q =>
  ho M G H σ S _ fun v G1 H1 g1 s1 dv => by
    obtain ⟨a, dx, xs, rfl, ha, hf⟩ := dv.ins_inv
    refine ⟨a, dx, xs, rfl, s1.sub _ _ ha, dzF_lookup hf hl, h M G1 H1 σ s1 _ fun vs G2 H2 g2 s2 dvs => .inr ?_⟩
    exact ⟨fun _ => False, G2, (.ins C fs :: ds).map .fr, e, (.ins C fs :: ds).map .fr, sim_args (.cons ((Dz.ins ha hf).mono g2.g) dvs) s2.sub, hR, fun d G' H' g s r => q d G' H' ((g1.trans g2).trans (g.wk fun _ _ z => z.elim)) (s2.after g s.sub) r⟩
end
/-! ### what raises: C() -/
structure XCls (K : PySem.W.Frag) (C : Addr) : Prop where
  q : PySem.W.excIn K C [.type "ValueError", .type "Exception", .type "BaseException", .type "object"] "ValueError.__new__" = true
  kC : PySem.W.keepIn K (.ref C) = true
  sb : PySem.W.subIn K (.ref C) (.type "BaseException") = some true
  ty : PySem.W.typeIn K (.ref C) = some (.type "type")
theorem pmk_own0 {X : Cx} {C : Addr} {x : Str} {p pos : Pos} (T : XCls X.K C) (gC : X.mg x = some (.ref C)) (hg : Gl X x) (hdb : (x == ("__debug__" : Str)) = false := by decide) : L2N.PMk X (.Call (.Name x p) [] [] pos) (fun _ H Q => Q (.ref C) none H) := by
  intro pins s σ H Q I h
  refine wpAny_Call_Name_kw (ld_glob I hg gC (PySem.W.callWith_K0 I.kIn T.kC ?_) hdb)
  show wpAny _ _ (call (.ref C) []) _ _ _
  obtain ⟨bm, N, nm, qn, bs, hdct, sn, sub, ab, col, dd, k0, k1, k2, k3, k5, mN, hC, hN, hni, O⟩ := exc_obj I.kIn T.q
  obtain ⟨hp, gg, dr, tk, os⟩ := s
  exact wpAny_call_exc_subT PySem.F.excBase_ValueError O hC hN hni (fun h' e hm => L2N.mk_of I hm (raises_own T.sb T.ty) h (I.hok.gone hm.new)) (Nat.zero_le _)
theorem ps_raise0 {X : Cx} {C : Addr} {x : Str} {p pos pos2 : Pos} {W : WX} (hc : X.calm = true) (tk : L2N.Takes X W) (T : XCls X.K C) (gC : X.mg x = some (.ref C)) (hg : Gl X x) (hdb : (x == ("__debug__" : Str)) = false := by decide) :
    PS X (.Raise (some (.Call (.Name x p) [] [] pos)) none pos2) (tRaise0 C W) := L2N.ps_raise hc tk (pmk_own0 T gC hg hdb)
/-! ### try .. except c as n -/
def tTry (K : PySem.W.Frag) (c : Value) (i : Nat) (ts : Addr → Value → Option Addr → TS) (Wout : WX) (tb : WX → TS) : TS := fun Dn σ H => tb (wAs K c i ts Wout Dn) Dn σ H
def Out.wipe (i : Nat) : Out → Out
  | .nx ρ => .nx (ρ.set i .no)
  | .bk ρ => .bk (ρ.set i .no)
  | .ct ρ => .ct (ρ.set i .no)
  | .rt ρ c => .rt ρ c
/-- a suite: slot i holds the exception, at a -/
def SuZ (K : PySem.W.Frag) (S : List Nat) (i : Nat) (a : Addr) (d : Option Addr) (fs : Option (List (Str × D))) (ts : TS) (ρ : Rho) (o : Out) : Prop := ∀ M G H σ (E : Ends), Fresh M H → Sim K M G H σ ρ → σ[i]? = some (some (.ref a)) → XdOk K G d fs → PostZ K (i :: S) M G H σ E o → ts E σ H
def TsE (K : PySem.W.Frag) (i : Nat) (a : Addr) (d : Option Addr) (fs : Option (List (Str × D))) (tt : TT) (ρ : Rho) (b : Bool) : Prop := ∀ M G H σ, Sim K M G H σ ρ → σ[i]? = some (some (.ref a)) → XdOk K G d fs → ∀ Q : Bool → Hp → Prop, (∀ G' H', Grow M G H G' H' → Sim K M G' H' σ ρ → Q b H') → tt σ H Q
section
variable {K : PySem.W.Frag} {S : List Nat} {i : Nat} {a : Addr} {d : Option Addr} {fs : Option (List (Str × D))} {ts us : TS} {tt tu : TT} {ρ ρ1 ρ2 : Rho} {o : Out} {b c : Bool}
theorem su_of (h : ExZ K (i :: S) ts ρ o) : SuZ K S i a d fs ts ρ o := fun M G H σ E f s _ _ q => h M G H σ E f s q
theorem su_seq (h : ExZ K (i :: S) ts ρ (.nx ρ1)) (k : SuZ K S i a d fs us ρ1 o) : SuZ K S i a d fs (tSeq ts us) ρ o := fun M G H σ E f s e x q => h M G H σ { E with nx := us E } f s fun G1 H1 σ1 g1 k1 s1 =>
  k M G1 H1 σ1 E (f.grow g1) s1 ((k1 i List.mem_cons_self).trans e) (x.mono g1.g) (q.go g1 k1)
theorem su_ifF (h : TsE K i a d fs tt ρ false) (k : SuZ K S i a d fs us ρ o) : SuZ K S i a d fs (tIfS tt ts us) ρ o := fun M G H σ E f s e x q => h M G H σ s e x _ fun G1 H1 g1 s1 => by
  rw [if_neg Bool.false_ne_true]
  exact k M G1 H1 σ E (f.grow g1) s1 e (x.mono g1.g) (q.go g1 .refl)
theorem te_not (h : TsE K i a d fs tt ρ b) : TsE K i a d fs (tNot tt) ρ (!b) := fun M G H σ s e x Q q => h M G H σ s e x _ fun G1 H1 g1 s1 => q G1 H1 g1 s1
theorem te_or (h : TsE K i a d fs tt ρ b) (k : b = false → TsE K i a d fs tu ρ c) : TsE K i a d fs (tOr tt tu) ρ (b || c) := by
  cases b with
  | true => exact fun M G H σ s e x Q q => h M G H σ s e x _ fun G1 H1 g1 s1 => q G1 H1 g1 s1
  | false =>
    exact fun M G H σ s e x Q q => h M G H σ s e x _ fun G1 H1 g1 s1 => by
      rw [if_neg Bool.false_ne_true]
      exact k rfl M G1 H1 σ s1 e (x.mono g1.g) _ fun G2 H2 g2 s2 => q G2 H2 (g1.trans g2) s2
theorem Sim.setN {M : MS} {G H : Hp} {σ : L2.St} {v : Option V} (s : Sim K M G H σ ρ) : Sim K M G H (σ.set i v) (ρ.set i .no) where
  len := by rw [List.length_set, List.length_set]; exact s.len
  sub := s.sub
  fr {j d} h := by
    rcases get_set h with ⟨_, z, _⟩ | ⟨ne, h⟩
    · cases z
    · obtain ⟨v, e1, e2⟩ := s.fr h
      exact ⟨v, by rw [List.getElem?_set_ne ne]; exact e1, e2⟩
  mu {j m} h := by
    rcases get_set h with ⟨_, z, _⟩ | ⟨ne, h⟩
    · cases z
    · obtain ⟨p, o, e1, r⟩ := s.mu h
      exact ⟨p, o, by rw [List.getElem?_set_ne ne]; exact e1, r⟩
  apart {j k m n p} ne h1 h2 h3 h4 := by
    rcases get_set h1 with ⟨_, z, _⟩ | ⟨n1, h1⟩
    · cases z
    · rcases get_set h2 with ⟨_, z, _⟩ | ⟨n2, h2⟩
      · cases z
      · rw [List.getElem?_set_ne n1] at h3
        rw [List.getElem?_set_ne n2] at h4
        exact s.apart ne h1 h2 h3 h4
theorem ex_tryN {cv : Value} {tsu : Addr → Value → Option Addr → TS} {Wout : WX} {tb : WX → TS} (h : ∀ W, ExZ K S (tb W) ρ o) : ExZ K S (tTry K cv i tsu Wout tb) ρ o := fun M G H σ E f s q => h _ M G H σ E f s q
theorem ex_tryX {cv : Value} {tsu : Addr → Value → Option Addr → TS} {Wout : WX} {tb : WX → TS} {e : Exn} (h : ∀ W, ExX K S W (tb W) ρ ρ1 e) (hm : PySem.W.exmOne K e.cls cv = some true) (hi : i ∉ S) (hl : i < ρ1.length)
    (hs : ∀ a d, SuZ K S i a d e.fs (tsu a e.cls d) (ρ1.set i .no) o) : ExZ K S (tTry K cv i tsu Wout tb) ρ (o.wipe i) := fun M G H σ E f s q => by
  refine h _ M G H σ E f s fun d G1 H1 σ1 g1 k1 s1 x => ⟨true, hm, fun _ a ha => ?_, fun z => by cases z⟩
  have hl' : i < σ1.length := by rw [s1.len]; exact hl
  have kp : ∀ {σ' : L2.St} {v : Option V}, Keep (i :: S) (σ1.set i (some (.ref a))) σ' → Keep S σ (σ'.set i v) := fun {σ' v} k j hj => by
    have ne : i ≠ j := fun z => by subst z; exact hi hj
    rw [List.getElem?_set_ne ne, k j (List.mem_cons_of_mem _ hj), List.getElem?_set_ne ne]
    exact k1 j hj
  have kp2 : ∀ {σ' : L2.St}, Keep (i :: S) (σ1.set i (some (.ref a))) σ' → Keep S σ σ' := fun {σ'} k j hj => by
    have ne : i ≠ j := fun z => by subst z; exact hi hj
    rw [k j (List.mem_cons_of_mem _ hj), List.getElem?_set_ne ne]
    exact k1 j hj
  refine hs a d M G1 H1 _ _ (f.grow g1) (Sim.setN s1) (by rw [List.getElem?_set_self hl']) x ?_
  cases o with
  | nx ρ2 => exact fun G' H' σ' g k s' => q G' H' _ (g1.trans g) (kp k) (Sim.setN s')
  | bk ρ2 => exact fun G' H' σ' g k s' => q G' H' _ (g1.trans g) (kp k) (Sim.setN s')
  | ct ρ2 => exact fun G' H' σ' g k s' => q G' H' _ (g1.trans g) (kp k) (Sim.setN s')
  | rt ρ2 cl => exact fun v G' H' σ' g k s' r => q v G' H' σ' (g1.trans g) (kp2 k) s' (r.sub fun j hj => List.mem_cons_of_mem _ hj)
/-- isinstance(e, C) in a suite, e without own fields -/
def rIsG (K : PySem.W.Frag) (Dc : Addr) (a : Addr) (cls : Value) (d : Option Addr) : List V → Hp → VK → Prop := fun xs H Q => cls = .ref Dc ∧ d = none ∧ rIsE K Dc a xs H Q
theorem call_isG {X : Cx} {a Dc : Addr} {cls : Value} {d : Option Addr} {oe : Obj} {pn : List (Addr × Obj)} (T : ExcC X.K Dc) (hz : L2N.Zn cls d oe) (hf : ∃ vs, oe.data = .fields vs) : CallR (X.suite a ((a, oe) :: pn)) (.builtin "isinstance") (rIsG X.K Dc a cls d) := by
  intro pins s σ H xs us Q I r h
  obtain ⟨rfl, rfl, h⟩ := h
  exact call_isE T hz.zc hf pins s σ H xs us Q I r h
theorem te_isG {Dc C : Addr} (hk : PySem.W.kitOne K (.ref Dc) (.ref C) = some b) : TsE K i a d none (tB (tCB (rIsG K Dc a (.ref Dc) d) (tCons (tVar i) (tCons (tC (.ref C)) tNil)))) ρ b := fun M G H σ s e x Q q =>
  ⟨.ref a, e, ⟨rfl, x, .ref C, .ref C, b, rfl, fun u r => r, hk, b, rfl, q G H .refl s⟩⟩
end
end Z

set_option Elab.async false
set_option linter.all false
set_option maxRecDepth 100000
set_option maxHeartbeats 2000000
/-! ZHot: exceptions with a field of their own; calls within a suite. -/
namespace Z
open PySem PySem.Spec PyProof.Rows L2
open Evl (Ex Ex.refl Ex.trans Ex.new ex_rd ex_l ex_t sq_of st_of fresh_back sz_of sz_lt)
section
variable {X : Cx} {x : Str} {C fI : Addr} {k : Nat} {fd : FuncData} {ps : List Str} {sp : Sp} {e : Expr} {es : List Expr} {ta : TA} {p pos : Pos}
end
/-- __init__: self.f = v -/
def spIni (K : PySem.W.Frag) (C : Addr) (f : Str) : Sp := fun vs H Q _ => ∃ (a : Addr) (v : V), vs = [.ref a, v] ∧ H a = some (exo a C none) ∧ ∀ dx, H dx = none → dx ≠ a → Q .non (upd (upd H dx (exd dx [(f, v)])) a (exo a C (some dx)))
/-- what is known of the class at C, whose __init__ keeps one argument as f -/
structure XIni (P : Program) (w : World) (K : PySem.W.Frag) (mg : Str → Option Value) (base : Heap) (k : Nat) (C : Addr) (f : Str) : Prop where
  T : OexC K C
  ex : ∃ (fI : Addr) (fd : FuncData) (ps : List Str), PySem.W.findIn K (.ref C) "__init__" = some (some (.ref fI)) ∧ PySem.W.typeIn K (.ref fI) = some (.type "function") ∧ FnOk P w K mg base CX0 k fI fd ps (spIni K C f) ∧ Binds K fd ps []
section
variable {K : PySem.W.Frag} {S : List Nat} {W : WX} {ρ ρ1 : Rho} {ta tb te : TE} {tx : TA} {i : Nat} {a : Addr} {d : Option Addr} {fs : List (Str × D)} {fo : Option (List (Str × D))} {dv du : D} {b c : Bool} {E : L2.St → XK}
/-! ### suites that read the exception -/
def EvE (K : PySem.W.Frag) (i : Nat) (a : Addr) (d : Option Addr) (fo : Option (List (Str × D))) (te : TE) (ρ : Rho) (dv : D) : Prop := ∀ M G H σ, Sim K M G H σ ρ → σ[i]? = some (some (.ref a)) → XdOk K G d fo → ∀ Q : VK, (∀ v G' H', Grow M G H G' H' → Sim K M G' H' σ ρ → Dz K G' v dv → Q v H') → te σ H Q
theorem ee_of (h : EvZ K te ρ ρ dv) : EvE K i a d fo te ρ dv := fun M G H σ s _ _ Q q => h M G H σ s Q q
theorem ee_isG {Dc C : Addr} (hk : PySem.W.kitOne K (.ref Dc) (.ref C) = some b) : EvE K i a d none (tCB (rIsG K Dc a (.ref Dc) d) (tCons (tVar i) (tCons (tC (.ref C)) tNil))) ρ (.bl b) := fun M G H σ s e x Q q =>
  ⟨.ref a, e, rfl, x, .ref C, .ref C, b, rfl, fun u r => r, hk, q _ G H .refl s (.bl b)⟩
theorem ee_andV (h : EvE K i a d fo ta ρ (.bl b)) (k : b = true → EvE K i a d fo tb ρ (.bl c)) : EvE K i a d fo (tAndV ta tb) ρ (.bl (b && c)) := fun M G H σ s e x Q q => h M G H σ s e x _ fun v G1 H1 g1 s1 dz => ⟨b, dz.bl_inv, by
  cases b with
  | true =>
    rw [if_pos rfl]
    exact k rfl M G1 H1 σ s1 e (x.mono g1.g) _ fun u G2 H2 g2 s2 du => q u G2 H2 (g1.trans g2) s2 du
  | false =>
    rw [if_neg Bool.false_ne_true]
    exact q _ G1 H1 g1 s1 (.bl false)⟩
theorem ee_not (h : EvE K i a d fo ta ρ (.bl b)) : EvE K i a d fo (tNotV ta) ρ (.bl (!b)) := fun M G H σ s e x Q q => h M G H σ s e x _ fun v G1 H1 g1 s1 dz => ⟨b, dz.bl_inv, q _ G1 H1 g1 s1 (.bl _)⟩
theorem su_ret {fo : Option (List (Str × D))} (h : EvE K i a d fo te ρ dv) : SuZ K S i a d fo (tRet te) ρ (.rt ρ (.fr dv)) := fun M G H σ E f s e x q => h M G H σ s e x _ fun v G1 H1 g1 s1 dz => q v G1 H1 σ g1 .refl s1 dz
theorem ee_call1 {R : Rel} (ha : EvE K i a d fo ta ρ du) (hR : R [.fr du] (.fr dv) [.fr du]) : EvE K i a d fo (tCallS (SpZ K R) E (tCons ta tNil)) ρ dv := fun M G H σ s e x Q q =>
  ha M G H σ s e x _ fun u G1 H1 g1 s1 hu =>
    ⟨fun _ => False, G1, [.fr du], .fr dv, [.fr du], sim_args (ds := [du]) (.cons hu .nil) s1.sub, hR, fun y G' H' g s' r => q y G' H' (g1.trans (g.wk fun _ _ z => z.elim)) (s1.after g s'.sub) r⟩
end
/-! ### defs that a suite calls -/
structure Zdeh (P : Program) (w : World) (K : PySem.W.Frag) (mg : Str → Option Value) (base : Heap) (k : Nat) (x : Str) (ps : List Str) (R : Rel) : Prop where
  ex : ∃ (f : Addr) (fd : FuncData), L2H.FnH P w K mg base CX0 k f fd ps (SpZ K R) ∧ mg x = some (.ref f) ∧ PySem.W.keepIn K (.ref f) = true ∧ Binds K fd ps []
theorem def_zh {P : Program} {w : World} {K : PySem.W.Frag} {mg : Str → Option Value} {base : Heap} {x qual : Str} {st : Stmt} {f : Addr} {fd : FuncData} {N ps : List Str} {k n m : Nat} {t : TS} {S : List Nat} (F : Fun K x qual st f fd) (hm : mg x = some (.ref f))
    (Sc : FnScope N ps (defScope st)) (hn : N.length = n) (hp : ps.length = m) (b : Binds K fd ps [])
    (h : ∀ (cdv : Value) (A : Around) (outer : List Env) (s : Shared) (H : Hp) (E : XK) (p : Addr × Obj), L2H.Hot1 A p → L2H.RoomH k (A.deeper (envOfC qual (defScope st) s.heap.objs.size f cdv)) → PSs (L2H.cxH CX0 P w K mg base N qual (defScope st) f cdv A outer s H E p) (defBody st) t) :
    Zdeh P w K mg base (k + 1) x ps (RelOf K S t n m) := by
  subst hn
  subst hp
  obtain ⟨oc, od, kV, doc, pm, an, cdv, ct, osl, rfl, lk, hcd⟩ := F.ex
  refine ⟨f, _, L2H.fn_ofH lk hcd Sc (spz_len fun _ _ _ y => y.1) (fun A outer s H vs Q E p hot hr hsp => ⟨t, h cdv A outer s H E p hot hr, body_z S hsp fun cs r cs' hR => ?_⟩), hm, F.kp, b⟩
  obtain ⟨hl, ρ', h1, h2⟩ := hR
  rw [hl]
  exact ⟨ρ', h1, h2⟩
theorem hotc_of {X : Cx} {a : Addr} {cls : Value} {d : Option Addr} {oe : Obj} {pn : List (Addr × Obj)} (hz : L2N.Zn cls d oe) (hf : ∃ vs, oe.data = .fields vs) : L2H.HotC (X.suite a ((a, oe) :: pn)) := by
  obtain ⟨vs, hv⟩ := hf
  exact ⟨(a, oe), ⟨rfl, vs, hv, hz.2.2 vs hv⟩, List.mem_cons_self⟩
theorem roomH_suite {X : Cx} {a : Addr} {pn : List (Addr × Obj)} {k : Nat} (hr : Room k X.A) : L2H.RoomH k (X.suite a pn).A := ⟨hr.dp, hr.un⟩
theorem pe_callZH {X : Cx} {k j : Nat} {x : Str} {ps : List Str} {R : Rel} {e : Expr} {es : List Expr} {p pos : Pos} {t : TA} (G : Zdeh X.prog X.w X.K X.mg X.base k x ps R) (hr : L2H.RoomH j X.A) (hk : k ≤ j) (hc : L2H.HotC X) (hg : Gl X x) (ha : PA X (e :: es) t)
    (hdb : (x == ("__debug__" : Str)) = false := by decide) (he : starEach (e :: es) X.env = (false, eval e X.env) :: starEach es X.env := by rfl) (hpl : (backTo pos (starEach es X.env)).any (·.1) = false := by rfl) :
    PE X (.Call (.Name x p) (e :: es) [] pos) (tCallS (SpZ X.K R) (fun _ => E0) t) := by
  obtain ⟨f, fd, h1, h2, h3, h4⟩ := G.ex
  exact L2H.pe_callH h1 (hr.mono hk) hc hg h2 h3 h4 (fun _ _ _ _ _ _ _ y => False.elim y) ha hdb he hpl
end Z

set_option Elab.async false
set_option linter.all false
set_option maxRecDepth 100000
set_option maxHeartbeats 2000000
/-! ZExm: methods of the frame's own instance that may raise; a while in which a turn raises; the two ends of a method joined. -/
namespace Z
open PySem PySem.Spec PyProof.Rows L2
open Evl (Ex Ex.refl Ex.trans Ex.new ex_rd ex_l ex_t sq_of st_of fresh_back sz_of sz_lt)
section
variable {X : Cx} {k j : Nat} {m : Str} {C : Addr} {ps : List Str} {R : Rel} {RX : RelX} {o : Expr} {pos apos : Pos} {to : TE} {W : WX}
end
section
variable {K : PySem.W.Frag} {S : List Nat} {W : WX} {ρ ρ' ρ1 ρ2 : Rho} {ta : TE} {tt : TT} {tb : TS} {tx : TA} {ds : List D} {d : D} {e : Exn} {R : Rel} {RX : RelX} {C : Addr} {m : Str}
theorem Sim.no {M : MS} {G H : Hp} {σ : L2.St} (s : Sim K M G H σ ρ) (i : Nat) : Sim K M G H σ (ρ.set i .no) :=
  Sim.forget s (by rw [List.length_set]) fun j c h => by
    rcases get_set h with ⟨_, z, _⟩ | ⟨_, h⟩
    · exact .inl z
    · exact .inr h
/-! ### parts that raise -/
/-- a while in which a turn raises -/
inductive WhileX (K : PySem.W.Frag) (S : List Nat) (W : WX) (tt : TT) (tb : TS) : Nat → Rho → Rho → Exn → Prop
  | step {n : Nat} {ρ ρ1 ρ2 ρ3 : Rho} {e : Exn} : TsZ K tt ρ ρ1 true → ExZ K S tb ρ1 (.nx ρ2) → WhileX K S W tt tb n ρ2 ρ3 e → WhileX K S W tt tb (n + 1) ρ ρ3 e
  | here {n : Nat} {ρ ρ1 ρ2 : Rho} {e : Exn} : TsZ K tt ρ ρ1 true → ExX K S W tb ρ1 ρ2 e → WhileX K S W tt tb n ρ ρ2 e
end
/-! ### a def that may raise, where it does not -/
end Z

set_option Elab.async false
set_option linter.all false
set_option maxRecDepth 100000
set_option maxHeartbeats 2000000
/-! ZMax: a constructor whose __init__ may raise. -/
namespace Z
open PySem PySem.Spec PyProof.Rows L2
open Evl (Ex Ex.refl Ex.trans Ex.new ex_rd ex_l ex_t sq_of st_of fresh_back sz_of sz_lt)
def tMakeX (C : Addr) (sp : Sp) (W : WX) (t : TA) : TE := fun σ H Q => t σ H fun vs H1 => ∀ x dx, H1 x = none → H1 dx = none → dx ≠ x →
  sp (.ref x :: vs) (upd (upd H1 dx (.own x)) x (.ins C dx [])) (fun v H2 => v = .non ∧ Q (.ref x) H2) (WE W σ)
section
variable {X : Cx} {k j : Nat} {x : Str} {C : Addr} {ps : List Str} {R : Rel} {RX : RelX} {e : Expr} {es : List Expr} {p pos : Pos} {t : TA} {W : WX}
theorem run_maX {CX : CXT} {f : Addr} {fd : FuncData} {sp : Sp} {E : XK} {pins : List (Addr × Obj)} {σ : L2.St} {H : Hp} {s : Shared} {Q : VK} {us : List Value} {vs : List V} (M : Mk X.K C f) (F : FnOk X.prog X.w X.K X.mg X.base CX k f fd ps sp) (hr : Room (k + 1) X.A) (hb : Binds X.K fd ps [])
    (hx : L2.PassesAt CX X σ E) (I : Inv X pins σ H s) (r : Vals vs us)
    (h : ∀ x dx, H x = none → H dx = none → dx ≠ x → sp (.ref x :: vs) (upd (upd H dx (.own x)) x (.ins C dx [])) (fun v H2 => v = .non ∧ Q (.ref x) H2) E) :
    wpAny (model X.prog X.w) X.A (call (.ref C) us) (EP X pins σ Q) X.xe s := by
  have hq := h (s.heap.objs.size + 1) s.heap.objs.size (I.hok.fresh (Nat.le_succ _)) (I.hok.fresh (Nat.le_refl _)) (Nat.ne_of_lt (Nat.lt_succ_self _))
  have I2 := Inv.made (C := C) I
  have r2 : Vals (V.ref (s.heap.objs.size + 1) :: vs) (Value.ref (s.heap.objs.size + 1) :: us) := .cons rfl r
  have hl : ((Value.ref (s.heap.objs.size + 1) :: us) ++ []).length = ps.length := by
    have e := r2.length
    rw [F.len _ _ _ _ hq] at e
    rw [List.append_nil]
    exact e.symm
  have hb2 := hb _ (Value.ref (s.heap.objs.size + 1) :: us) I2.kIn hl
  rw [List.append_nil] at hb2
  refine wpAny_call (make_map (f := f) I.kIn M.makes M.init (beq_iff_eq.mp M.fn) (codeAny_mono (F.run _ X.stack _ _ ⟨Value.ref (s.heap.objs.size + 1) :: us, []⟩ (Value.ref (s.heap.objs.size + 1) :: us) _ _ E (hr.make C us [])
    (I2.env0.make C us []) hb2 r2 hq) fun r s' hq' => ?_))
  cases r with
  | error e => exact hx pins _ _ e s' I2 hq'
  | ok fl =>
    cases fl with
    | ret u =>
      obtain ⟨v, H', I3, rv, ev, q3⟩ := I2.after hq'
      subst ev
      exact ⟨rv, ⟨V.ref (s.heap.objs.size + 1), H', I3, rfl, q3⟩⟩
    | next => exact False.elim hq'
    | brk => exact False.elim hq'
    | cont => exact False.elim hq'
theorem pe_makeX (G : Zmax X.prog X.w X.K X.mg X.base k x C ps R RX) (hr : Room j X.A) (hk : k + 1 ≤ j) (tk : L2N.Takes X W) (hg : Gl X x) (ha : PA X (e :: es) t) (hdb : (x == ("__debug__" : Str)) = false := by decide)
    (he : starEach (e :: es) X.env = (false, eval e X.env) :: starEach es X.env := by rfl) (hpl : (backTo pos (starEach es X.env)).any (·.1) = false := by rfl) :
    PE X (.Call (.Name x p) (e :: es) [] pos) (tMakeX C (SpX X.K R RX) W t) := by
  obtain ⟨f, fd, h1, h2, h3, h4⟩ := G.ex
  refine ⟨fun pins s σ H Q I h => ?_⟩
  refine wpAny_Call_Name_kw (ld_glob I hg h3 ?_ hdb)
  refine PySem.W.callWith_K (h₀ := X.base) I.ok.mod.kin h2.kp (thn (ha.run pos pins s σ H _ I h) fun us s1 w => ?_) he hpl
  obtain ⟨vs, H1, I1, r, q⟩ := w
  exact ⟨I1.kIn, run_maX h2 h1 (hr.mono hk) h4 (L2N.passAt tk σ) I1 r q⟩
end
section
variable {K : PySem.W.Frag} {W : WX} {R : Rel} {RX : RelX} {ρ ρ1 : Rho} {tx : TA} {ds : List D} {C : Addr} {fs : List (Str × D)} {e : Exn}
theorem mk_sim {M : MS} {G1 H1 : Hp} {σ : L2.St} {vs : List V} {p dx : Addr} (s1 : Sim K M G1 H1 σ ρ1) (dv : Dzs K G1 vs ds) (hp : H1 p = none) (hdx : H1 dx = none) (ne : dx ≠ p) :
    Sim K (fun a => a = p) G1 (upd (upd H1 dx (.own p)) p (.ins C dx [])) ((V.ref p :: vs).map some) (.mu (.ins C []) :: ds.map .fr) := by
  have hx : (upd H1 dx (.own p)) p = none := by rw [upd_ne (Ne.symm ne)]; exact hp
  have s2 := (s1.newO (o := .own p) hdx).newO (o := .ins C dx []) hx
  have sa := sim_args (K := K) dv s2.sub
  have gp : G1 p = none := fresh_back s1.sub hp
  refine ⟨by rw [List.map_cons, List.length_cons, List.length_cons, sa.len], s2.sub, fun {j d} h => ?_, fun {j d} h => ?_, fun {j k d e q} ne h2 h3 h4 h5 => ?_⟩
  · cases j with
    | zero => exact absurd (show some (Cell.mu (.ins C [])) = some (Cell.fr d) from h) (by simp)
    | succ j => exact sa.fr (i := j) h
  · cases j with
    | zero =>
      have z : some (Cell.mu (.ins C [])) = some (Cell.mu d) := h
      cases z
      exact ⟨p, _, rfl, rfl, gp, upd_same, ⟨rfl, .nil⟩⟩
    | succ j =>
      obtain ⟨_, _, _, z, _⟩ := sa.mu (i := j) h
      exact z.elim
  · cases j with
    | zero =>
      cases k with
      | zero => exact ne rfl
      | succ k =>
        obtain ⟨_, _, _, z, _⟩ := sa.mu (i := k) h3
        exact z.elim
    | succ j =>
      obtain ⟨_, _, _, z, _⟩ := sa.mu (i := j) h2
      exact z.elim
/-- behind the call all stands but the new instance -/
theorem mk_back {M : MS} {G1 H1 G' H' : Hp} {σ : L2.St} {p dx : Addr} (s1 : Sim K M G1 H1 σ ρ1) (hp : H1 p = none) (hdx : H1 dx = none) (ne : dx ≠ p) (g : Grow (fun a => a = p) G1 (upd (upd H1 dx (.own p)) p (.ins C dx [])) G' H') (sb : ∀ a u, G' a = some u → H' a = some u) :
    Sim K M G' H' σ ρ1 ∧ Grow M G1 H1 G' H' := by
  have hx : (upd H1 dx (.own p)) p = none := by rw [upd_ne (Ne.symm ne)]; exact hp
  have s2 := (s1.newO (o := .own p) hdx).newO (o := .ins C dx []) hx
  have nw : ∀ (j : Nat) (es : MO), ρ1[j]? = some (.mu es) → σ[j]? ≠ some (some (.ref p)) := s1.noOwn hp
  refine ⟨s2.grow sb g.g fun q' es i e1 e2 => ?_, g.g, fun a o n e => ?_, fun a n e z => ?_, fun a z => ?_⟩
  · have ne' : q' ≠ p := fun z => by subst z; exact nw i es e1 e2
    obtain ⟨q2, us, e', m, gq, hq, dq⟩ := s2.mu e1
    rw [e2] at e'
    cases e'
    exact ⟨(g.k q' _ ne' hq).trans hq.symm, g.n q' ne' (by rw [hq]; simp) gq⟩
  · have n1 : a ≠ p := ne_of_none e hp
    have n2 : a ≠ dx := ne_of_none e hdx
    exact g.k a o n1 (by rw [upd_ne n1, upd_ne n2]; exact e)
  · have n1 : a ≠ p := fun y => by subst y; exact e hp
    have n2 : a ≠ dx := fun y => by subst y; exact e hdx
    exact g.n a n1 (by rw [upd_ne n1, upd_ne n2]; exact e) z
  · exact upd_none (upd_none (g.d a z))
theorem evx_make (ha : AgZ K tx ρ ρ1 ds) (hR : RX (.mu (.ins C []) :: ds.map .fr) e (.no :: ds.map .fr)) : EvX K W (tMakeX C (SpX K R RX) W tx) ρ ρ1 e := fun M G H σ S q =>
  fun q => ha M G H σ S _ fun vs G1 H1 g1 s1 dv => fun p dx hp hdx ne =>
    .inr ⟨_, G1, _, e, _, mk_sim s1 dv hp hdx ne, hR, fun d G' H' g s x => by
      obtain ⟨b1, b2⟩ := mk_back s1 hp hdx ne g s.sub
      exact q d G' H' (g1.trans b2) b1 x⟩
theorem ev_makeX (ha : AgZ K tx ρ ρ1 ds) (hR : R (.mu (.ins C []) :: ds.map .fr) (.fr .non) (.mu (.ins C fs) :: ds.map .fr)) : EvZ K (tMakeX C (SpX K R RX) W tx) ρ ρ1 (.ins C fs) := fun M G H σ S Q q =>
  ha M G H σ S _ fun vs G1 H1 g1 s1 dv => fun p dx hp hdx ne => .inl (by
    refine ⟨fun a => a = p, G1, .mu (.ins C []) :: ds.map .fr, .fr .non, .mu (.ins C fs) :: ds.map .fr, mk_sim s1 dv hp hdx ne, hR, fun v G' H' g s r => ⟨Dz.non_inv r, ?_⟩⟩
    obtain ⟨p2, o2, eq2, m2, gp2, hp2, dz2⟩ := s.mu (i := 0) rfl
    have ep : p = p2 := by cases eq2; rfl
    subst ep
    obtain ⟨sσ, gM⟩ := mk_back s1 hp hdx ne g s.sub
    have nw : ∀ (j : Nat) (es : MO), ρ1[j]? = some (.mu es) → σ[j]? ≠ some (some (.ref p)) := s1.noOwn hp
    have eg : Ex G' (upd G' p o2) := Ex.new gp2
    refine q _ (upd G' p o2) H' (g1.trans ⟨gM.g.trans eg, gM.k, fun a n e z => ?_, gM.d⟩) (sσ.grow (fun a u e => ?_) eg fun q' es i e1 e2 => ?_) ((dz2.mono eg).dz upd_same)
    · have n1 : a ≠ p := fun y => by subst y; exact e hp
      rw [upd_ne n1]
      exact gM.n a n e z
    · by_cases y : a = p
      · subst y; rw [upd_same] at e; cases e; exact hp2
      · rw [upd_ne y] at e; exact s.sub a u e
    · have ne' : q' ≠ p := fun z => by subst z; exact nw i es e1 e2
      obtain ⟨q2, us, e', m, gq, hq, dq⟩ := sσ.mu e1
      rw [e2] at e'
      cases e'
      exact ⟨rfl, by rw [upd_ne ne']; exact gq⟩)
end
end Z

set_option Elab.async false
set_option linter.all false
set_option maxRecDepth 100000
set_option maxHeartbeats 2000000
/-! Law03a: dimensions as they are handed over, good or not; _is_leaf, _is_dimension, check_dimensions with both ends. -/
namespace Z
open PySem PySem.Spec PyProof.Rows L2
open Evl (Ex Ex.refl Ex.trans Ex.new ex_rd ex_l ex_t sq_of st_of fresh_back sz_of sz_lt)
namespace K03
/-! ### splitting at a slash, and back -/
theorem spl_all : ∀ (l acc : List Nat), TL.spl [47] 0 acc l ≠ [] ∧ TL.joinL [47] (TL.spl [47] 0 acc l) = acc ++ l ∧ (TL.spl [47] 0 acc l).length ≤ l.length + 1 ∧ ∀ w ∈ TL.spl [47] 0 acc l, w.length ≤ acc.length + l.length
  | [], acc => by
    rw [TL.spl_nil]
    exact ⟨by simp, (List.append_nil acc).symm, Nat.le_refl _, fun w hw => by rw [List.mem_singleton.mp hw]; omega⟩
  | c :: r, acc => by
    by_cases h : c = 47
    · subst h
      have e : TL.spl [47] 0 acc (47 :: r) = acc :: TL.spl [47] 0 [] r := TL.spl_hit rfl
      obtain ⟨n, j, k, m⟩ := spl_all r []
      rw [e]
      refine ⟨by simp, ?_, by rw [List.length_cons, List.length_cons]; omega, fun w hw => ?_⟩
      · cases q : TL.spl [47] 0 [] r with
        | nil => exact absurd q n
        | cons x xs =>
          rw [q] at j
          show acc ++ ([47] ++ TL.joinL [47] (x :: xs)) = _
          rw [j]
          rfl
      · rcases List.mem_cons.mp hw with rfl | hw
        · omega
        · have := m w hw
          rw [List.length_cons]
          simp at this
          omega
    · have p : TL.pre [47] (c :: r) = false := by
        show ([c] == [47]) = false
        rw [beq_eq_false_iff_ne]
        intro z
        exact h (List.cons.inj z).1
      rw [TL.spl_miss p]
      obtain ⟨n, j, k, m⟩ := spl_all r (acc ++ [c])
      refine ⟨n, by rw [j, List.append_assoc]; rfl, by rw [List.length_cons]; omega, fun w hw => ?_⟩
      have := m w hw
      rw [List.length_append, List.length_singleton] at this
      rw [List.length_cons]
      omega
theorem split_map (z : Str) : (Txt.split z slS).map TL.tl = TL.spl [47] 0 [] (TL.tl z) := TL.split_spl z slS (by decide +kernel) (TL.kind_ok (by decide +kernel))
theorem split_back (z : Str) : pathS (Txt.split z slS) = z := by
  refine TL.ext_tl ?_
  unfold pathS
  rw [TL.join_eq, TL.tl_join, split_map, show TL.tl slS = [47] by decide +kernel, (spl_all _ _).2.1]
  rfl
theorem split_len (z : Str) : (Txt.split z slS).length ≤ z.length + 1 ∧ ∀ w ∈ Txt.split z slS, w.length ≤ z.length := by
  have e := split_map z
  obtain ⟨_, _, k, m⟩ := spl_all (TL.tl z) []
  have lz := TL.len_tl z
  constructor
  · rw [← e, List.length_map] at k
    omega
  · intro w hw
    have := m (TL.tl w) (by rw [← e]; exact List.mem_map.mpr ⟨w, hw, rfl⟩)
    rw [List.length_nil, Nat.zero_add] at this
    rw [TL.len_tl w]
    omega
theorem words_len (z : Str) : (wordsS z).length ≤ z.length + 1 ∧ ∀ w ∈ wordsS z, w.length ≤ z.length := by
  unfold wordsS
  by_cases h : ((z.length : Int) != 0) = true
  · rw [if_pos h]; exact split_len z
  · rw [if_neg h]; exact ⟨by simp, fun w hw => by cases hw⟩
/-- a path of words is what its words make -/
theorem words_back {z : Str} (h : wordsS z ≠ []) : pathS (wordsS z) = z := by
  unfold wordsS at h ⊢
  by_cases q : ((z.length : Int) != 0) = true
  · rw [if_pos q]; exact split_back z
  · rw [if_neg q] at h; exact absurd rfl h
/-! ### what is asked of dimensions -/
abbrev Row := Str × List Str
def rowT (r : Row) : D := .tup [.str r.1, .tup (r.2.map .str)]
def rowsD (rs : List Row) : D := .tup (rs.map rowT)
def leafB (n : Nat) (p : Str) : Bool := decide (((wordsS p).length : Int) = (n : Int)) && ((wordsS p).map wordB).all id
def depth (r : Row) : Nat := (wordsS (r.2.headD "")).length
def ascB (ls : List Str) : Bool := ((ls.zip (ls.drop 1)).map fun p => decide (p.1.cps.toList < p.2.cps.toList)).all id
def dimB (r : Row) : Bool :=
  bif !wordB r.1 || !(decide ((2 : Int) ≤ (r.2.length : Int)) && decide ((r.2.length : Int) ≤ 8)) then false else
  bif !(decide ((1 : Int) ≤ (depth r : Int)) && decide ((depth r : Int) ≤ 3)) then false else
  bif !((r.2.map (leafB (depth r))).all id) then false else ascB r.2
def sizeN : List Row → Nat
  | [] => 1
  | r :: rs => r.2.length * sizeN rs
def dimsB (rs : List Row) : Bool :=
  bif !(decide ((1 : Int) ≤ (rs.length : Int)) && decide ((rs.length : Int) ≤ 3)) then false else
  bif decide (((met (rs.map Prod.fst)).length : Int) < (rs.length : Int)) then false else
  bif !(rs.all dimB) then false else !decide ((48 : Int) < (sizeN rs : Int))
/-- of a bounded size -/
structure Small (r : Row) : Prop where
  nm : r.1.length ≤ 5000
  few : r.2.length ≤ 100
  lf : ∀ p ∈ r.2, p.length ≤ 5000
section
variable {K : PySem.W.Frag} {ρ : Rho}
def CWd (R : Rel) : Prop := ∀ z : Str, z.length ≤ 80000 → R [.fr (.str z)] (.fr (.bl (wordB z))) [.fr (.str z)]
def CWo (R : Rel) : Prop := ∀ z : Str, z.length ≤ 80000 → R [.fr (.str z)] (.own ((wordsS z).map .str)) [.fr (.str z)]
theorem wd_of {R : Rel} (h : Spec R PreWord PostWord) : CWd R := fun z hz => by
  obtain ⟨r, cs', h1, rfl, h2⟩ := h _ ⟨z, rfl, by omega⟩
  obtain rfl := h2 _ rfl
  exact h1
theorem wo_of {R : Rel} (h : Spec R PreWo PostWo) : CWo R := fun z hz => by
  obtain ⟨r, cs', h1, rfl, h2⟩ := h _ ⟨z, rfl, hz⟩
  obtain rfl := h2 _ rfl
  exact h1
def CLeaf (R : Rel) : Prop := ∀ (p : Str) (n : Nat), p.length ≤ 5000 → R ([.str p, .int (n : Int)].map .fr) (.fr (.bl (leafB n p))) ([.str p, .int (n : Int)].map .fr)
theorem rel_leaf {Ri Rw : Rel} (hi : CWd Ri) (hw : CWo Rw) : CLeaf (RelOf K [] (t__is_leaf K Ri Rw) 4 2) := fun p n hp => by
  have wl := words_len p
  have cm : CompZ K (gName 3) tYes (e__is_leaf_1 K Ri Rw) [3] [3] ((wordsS p).map D.str) [.fr (.str p), .fr (.int (n : Int)), .fr (.lst ((wordsS p).map .str)), .no] ((wordsS p).map fun w => D.bl (wordB w)) [.fr (.str p), .fr (.int (n : Int)), .fr (.lst ((wordsS p).map .str)), .no] :=
    comp_mapA (K := K) (j := 3) D.str (fun w => D.bl (wordB w)) rfl (wordsS p) fun w hw' => ev_callF (ds := [.str w]) (ag_cons (ev_var (i := 3) rfl) ag_nil) (hi w (by have := wl.2 w hw'; omega))
  have al : EvZ K (tCB (rAll K) (tCons (tLc (iList K (tVar 2)) (gName 3) tYes (e__is_leaf_1 K Ri Rw) [3]) tNil)) [.fr (.str p), .fr (.int (n : Int)), .fr (.lst ((wordsS p).map .str)), .no] [.fr (.str p), .fr (.int (n : Int)), .fr (.lst ((wordsS p).map .str)), .no] (.bl (((wordsS p).map wordB).all id)) :=
    ev_all (EvN.rd (ds := ((wordsS p).map wordB).map D.bl) (by
      rw [List.map_map]
      exact en_lc (it_list (ev_var (i := 2) rfl)) cm (by decide) (by rw [List.length_map]; omega)))
  exact rel_rt (ds := [.str p, .int (n : Int)]) ⟨_, ex_seq (ex_setN (i := 2) (en_callF (ds := [.str p]) (ag_cons (ev_var (i := 0) rfl) ag_nil) (hw p (by omega))) .refl (by decide)) (ex_freeze (i := 2) (ds := (wordsS p).map .str) rfl (ex_ret (ev_is (ev_andV (ev_eqI (ev_lenL (ds := (wordsS p).map .str) (ev_var (i := 2) rfl).rd) (ev_var (i := 1) rfl)) fun _ => al) (by rw [List.length_map]; rfl))))⟩
def CIsD (R : Rel) : Prop := ∀ r : Row, Small r → R ([.str r.1, .tup (r.2.map .str)].map .fr) (.fr (.bl (dimB r))) ([.str r.1, .tup (r.2.map .str)].map .fr)
theorem rel_isd {Rl Ri Rw : Rel} (hl : CLeaf Rl) (hi : CWd Ri) (hw : CWo Rw) : CIsD (RelOf K [] (t__is_dimension K Rl Ri Rw (.int 3) (.int 2) (.int 8)) 6 2) := fun r sm => by
  have few := sm.few
  have nm := sm.nm
  refine rel_rt (ds := [.str r.1, .tup (r.2.map .str)]) ?_
  unfold dimB
  have t1 : TsZ K (tOr (tNot (tB (tCall (SpZ K Ri) [] E0 (tCons (tVar 0) tNil)))) (tNot (tTest (tChain rLeI rLeI (tC (.int 2)) (tCB (rLenX K) (tCons (tVar 1) tNil)) (tC (.int 8)))))) [.fr (.str r.1), .fr (.tup (r.2.map .str)), .no, .no, .no, .no] [.fr (.str r.1), .fr (.tup (r.2.map .str)), .no, .no, .no, .no] (!wordB r.1 || !(decide ((2 : Int) ≤ (r.2.length : Int)) && decide ((r.2.length : Int) ≤ 8))) :=
    ts_or (ts_not (ts_B (ev_callF (ds := [.str r.1]) (ag_cons (ev_var (i := 0) rfl) ag_nil) (hi r.1 (by omega))))) fun _ => ts_is (ts_not (ts_test (ev_chainI (p := fun i j => decide (i ≤ j)) (p' := fun i j => decide (i ≤ j)) ev_int (ev_lenT (ds := r.2.map D.str) (ev_var (i := 1) rfl).rd) ev_int))) (by rw [List.length_map])
  refine ex_when t1 (fun h => ⟨_, ex_ret (ev_is ev_bl (by rw [h]; rfl))⟩) fun h1 => ?_
  rw [h1, cond_false]
  rw [Bool.or_eq_false_iff, Bool.not_eq_false', Bool.not_eq_false', Bool.and_eq_true, decide_eq_true_eq, decide_eq_true_eq] at h1
  obtain ⟨_, h2, h8⟩ := h1
  have e0 : r.2[0]? = some (r.2.headD "") := by
    cases q : r.2 with
    | nil => rw [q] at h2; simp at h2
    | cons x xs => rfl
  have m0 : r.2.headD "" ∈ r.2 := List.mem_of_getElem? e0
  have l0 := sm.lf _ m0
  have s2 : ExZ K [] (tAsg (tCB (rLenX K) (tCons (tCall (SpZ K Rw) [] E0 (tCons (tOp (rIx K) (tVar 1) (tC (.int 0))) tNil)) tNil)) (gName 2)) [.fr (.str r.1), .fr (.tup (r.2.map .str)), .no, .no, .no, .no] (.nx [.fr (.str r.1), .fr (.tup (r.2.map .str)), .fr (.int (depth r : Int)), .no, .no, .no]) :=
    ex_set (i := 2) (ev_is (ev_lenL (EvN.rd (en_callF (ds := [.str (r.2.headD "")]) (ag_cons (ev_ixT (i := 0) (ds := r.2.map D.str) (ev_var (i := 1) rfl) ev_int (at_nat (j := 0) (by rw [List.getElem?_map, e0]; rfl))) ag_nil) (hw _ (by omega))))) (by rw [List.length_map]; rfl)) (by decide)
  have t3 : TsZ K (tNot (tTest (tChain rLeI rLeI (tC (.int 1)) (tVar 2) (tC (.int 3))))) [.fr (.str r.1), .fr (.tup (r.2.map .str)), .fr (.int (depth r : Int)), .no, .no, .no] [.fr (.str r.1), .fr (.tup (r.2.map .str)), .fr (.int (depth r : Int)), .no, .no, .no] (!(decide ((1 : Int) ≤ (depth r : Int)) && decide ((depth r : Int) ≤ 3))) :=
    ts_not (ts_test (ev_chainI (p := fun i j => decide (i ≤ j)) (p' := fun i j => decide (i ≤ j)) ev_int (ev_i1 (i := 2) rfl) ev_int))
  have cl : CompZ K (gName 3) tYes (e__is_dimension_2 K Rl Ri Rw (.int 3) (.int 2) (.int 8)) [3] [3] (r.2.map D.str) [.fr (.str r.1), .fr (.tup (r.2.map .str)), .fr (.int (depth r : Int)), .no, .no, .no] (r.2.map fun p => D.bl (leafB (depth r) p)) [.fr (.str r.1), .fr (.tup (r.2.map .str)), .fr (.int (depth r : Int)), .no, .no, .no] :=
    comp_mapA (K := K) (j := 3) D.str (fun p => D.bl (leafB (depth r) p)) rfl r.2 fun p hp => ev_callF (ds := [.str p, .int (depth r : Int)]) (ag_cons (ev_var (i := 3) rfl) (ag_cons (ev_var (i := 2) rfl) ag_nil)) (hl p (depth r) (sm.lf p hp))
  have t4 := ts_not (K := K) (ts_B (ev_all (EvN.rd (ds := (r.2.map (leafB (depth r))).map D.bl) (by
      rw [List.map_map]
      exact en_lc (it_tup (ev_var (ρ := [.fr (.str r.1), .fr (.tup (r.2.map .str)), .fr (.int (depth r : Int)), .no, .no, .no]) (i := 1) rfl)) cl (by decide) (by rw [List.length_map]; omega)))))
  have cz : CompZ K (gTup K 2 (gCons (gName 4) (gCons (gName 5) gNil))) tYes (e__is_dimension_1 K Rl Ri Rw (.int 3) (.int 2) (.int 8)) [4, 5] [4, 5] (zipD (r.2.map D.str) (cutD (r.2.map D.str) (some 1) none)) [.fr (.str r.1), .fr (.tup (r.2.map .str)), .fr (.int (depth r : Int)), .no, .no, .no] ((r.2.zip (r.2.drop 1)).map fun p => D.bl (decide (p.1.cps.toList < p.2.cps.toList))) [.fr (.str r.1), .fr (.tup (r.2.map .str)), .fr (.int (depth r : Int)), .no, .no, .no] := by
    rw [cut_one, ← List.map_drop, zip_map]
    exact comp_mapP (K := K) (a := 4) (b := 5) (by decide) (fun (p : Str × Str) => D.str p.1) (fun (p : Str × Str) => D.str p.2) (fun p => D.bl (decide (p.1.cps.toList < p.2.cps.toList))) rfl rfl _ fun p hp => ev_ltS (ev_var (i := 4) rfl) (ev_var (i := 5) rfl)
  have ze : EvZ K (tCB (rAll K) (tCons (tLc (RZ.iZipA K (tCons (tVar 1) (tCons (tSl (rSlT K) (tVar 1) (tPart (tC (.int 1))) tNoPart) tNil))) (gTup K 2 (gCons (gName 4) (gCons (gName 5) gNil))) tYes (e__is_dimension_1 K Rl Ri Rw (.int 3) (.int 2) (.int 8)) [4, 5]) tNil)) [.fr (.str r.1), .fr (.tup (r.2.map .str)), .fr (.int (depth r : Int)), .no, .no, .no] [.fr (.str r.1), .fr (.tup (r.2.map .str)), .fr (.int (depth r : Int)), .no, .no, .no] (.bl (ascB r.2)) :=
    ev_all (EvN.rd (ds := ((r.2.zip (r.2.drop 1)).map fun p => decide (p.1.cps.toList < p.2.cps.toList)).map D.bl) (by
      rw [List.map_map]
      exact en_lc (A := [4, 5]) (it_zipT (ag_cons (ev_var (i := 1) rfl) (ag_cons (ev_slT (ds := r.2.map D.str) (ev_var (i := 1) rfl) (poz_some ev_int) poz_none (by
        rw [List.length_map]
        intro h
        have e1 : HT.sIx r.2.length 0 (some 1) = 1 := by
          unfold HT.sIx
          simp
          omega
        rw [e1] at h
        exact absurd h.1 (by decide))) ag_nil))) cz (by decide) (by rw [zipD_len, List.length_map]; omega)))
  obtain ⟨ρ5, k5⟩ : ∃ ρ2, ExZ K [] (tSeq (tIfS (tNot (tTest (tChain rLeI rLeI (tC (.int 1)) (tVar 2) (tC (.int 3))))) (tRet (tC (.bl false))) tNext) (tSeq (tIfS (tNot (tB (tCB (rAll K) (tCons (tLc (iTup K (tVar 1)) (gName 3) tYes (e__is_dimension_2 K Rl Ri Rw (.int 3) (.int 2) (.int 8)) [3]) tNil)))) (tRet (tC (.bl false))) tNext)
      (tRet (tCB (rAll K) (tCons (tLc (RZ.iZipA K (tCons (tVar 1) (tCons (tSl (rSlT K) (tVar 1) (tPart (tC (.int 1))) tNoPart) tNil))) (gTup K 2 (gCons (gName 4) (gCons (gName 5) gNil))) tYes (e__is_dimension_1 K Rl Ri Rw (.int 3) (.int 2) (.int 8)) [4, 5]) tNil))))) [.fr (.str r.1), .fr (.tup (r.2.map .str)), .fr (.int (depth r : Int)), .no, .no, .no] (.rt ρ2 (.fr (.bl (bif !(decide ((1 : Int) ≤ (depth r : Int)) && decide ((depth r : Int) ≤ 3)) then false else bif !((r.2.map (leafB (depth r))).all id) then false else ascB r.2)))) := by
    refine ex_when t3 (fun h => ⟨_, ex_ret (ev_is ev_bl (by rw [h]; rfl))⟩) fun h3 => ?_
    rw [h3, cond_false]
    refine ex_when t4 (fun h => ⟨_, ex_ret (ev_is ev_bl (by rw [h]; rfl))⟩) fun h4 => ?_
    rw [h4, cond_false]
    exact ⟨_, ex_ret ze⟩
  exact ⟨ρ5, ex_seq s2 k5⟩
end
end K03
end Z

set_option Elab.async false
set_option linter.all false
set_option maxRecDepth 100000
set_option maxHeartbeats 2000000
/-! Law03b: check_dimensions of dimensions good or not. -/
namespace Z
open PySem PySem.Spec PyProof.Rows L2
open Evl (Ex Ex.refl Ex.trans Ex.new ex_rd ex_l ex_t sq_of st_of fresh_back sz_of sz_lt)
namespace K03
def xb_check_dimensions_1 (K : PySem.W.Frag) (R__is_dimension : Rel) (c_MOST_CELLS : V) (c_MOST_DIMENSIONS : V) (C_BadDimensions : Addr) (E : XK) : TS :=
  (tSeq (tIfS (tNot (tB (tCall (SpZ K R__is_dimension) [] E0 (tCons (tVar 3) (tCons (tVar 4) tNil))))) (tRaise0 C_BadDimensions (wOf E)) tNext)
      (tAsg (tOp rMulI (tVar 2) (tCB (rLenX K) (tCons (tVar 4) tNil))) (gName 2)))
def xe_check_dimensions_2 (K : PySem.W.Frag) (R__is_dimension : Rel) (c_MOST_CELLS : V) (c_MOST_DIMENSIONS : V) (C_BadDimensions : Addr) (E : XK) : TE :=
  (tVar 3)
def tx_check_dimensions (K : PySem.W.Frag) (R__is_dimension : Rel) (c_MOST_CELLS : V) (c_MOST_DIMENSIONS : V) (C_BadDimensions : Addr) (E : XK) : TS :=
  (tSeq (tIfS (tNot (tTest (tChain rLeI rLeI (tC (.int 1)) (tCB (rLenX K) (tCons (tVar 0) tNil)) (tC c_MOST_DIMENSIONS)))) (tRaise0 C_BadDimensions (wOf E)) tNext)
      (tSeq (tAsg (tLc (iTup K (tVar 0)) (gTup K 2 (gCons (gName 3) (gCons (gName 5) gNil))) tYes (xe_check_dimensions_2 K R__is_dimension c_MOST_CELLS c_MOST_DIMENSIONS C_BadDimensions E) [3, 5]) (gName 1))
      (tSeq (tIfS (tTest (tOp rLtI (tLenSetS K (tVar 1)) (tCB (rLenX K) (tCons (tVar 1) tNil)))) (tRaise0 C_BadDimensions (wOf E)) tNext)
      (tSeq (tAsg (tC (.int 1)) (gName 2))
      (tSeq (tFor (iTup K (tVar 0)) (gTup K 2 (gCons (gName 3) (gCons (gName 4) gNil))) (xb_check_dimensions_1 K R__is_dimension c_MOST_CELLS c_MOST_DIMENSIONS C_BadDimensions E))
      (tIfS (tTest (tOp rGtI (tVar 2) (tC c_MOST_CELLS))) (tRaise0 C_BadDimensions (wOf E)) tNext))))))
section
variable {K : PySem.W.Frag} {CB : Addr}
theorem dim_len {r : Row} (h : dimB r = true) : 2 ≤ r.2.length ∧ r.2.length ≤ 8 := by
  unfold dimB at h
  cases q : (!wordB r.1 || !(decide ((2 : Int) ≤ (r.2.length : Int)) && decide ((r.2.length : Int) ≤ 8))) with
  | true => rw [q, cond_true] at h; cases h
  | false =>
    rw [Bool.or_eq_false_iff, Bool.not_eq_false', Bool.not_eq_false', Bool.and_eq_true, decide_eq_true_eq, decide_eq_true_eq] at q
    omega
theorem chk_loop {Rd : Rel} {c1 c2 : V} (hd : CIsD Rd) (L : D) (nm : Cell) : ∀ (rs : List Row) (c : Nat) (a b : Cell), (∀ r ∈ rs, Small r) → c * 8 ^ rs.length ≤ 8 ^ 10 →
    (rs.all dimB = true ∧ ∃ a' b', ∀ E, LoopZ K [] (gTup K 2 (gCons (gName 3) (gCons (gName 4) gNil))) (xb_check_dimensions_1 K Rd c1 c2 CB E) [3, 4] (rs.map rowT) [.fr L, nm, .fr (.int (c : Int)), a, b, .no] (.nx [.fr L, nm, .fr (.int ((c * sizeN rs : Nat) : Int)), a', b', .no])) ∨
    (rs.all dimB = false ∧ ∃ ρ2, ∀ E, LoopX K [] (wOf E) (gTup K 2 (gCons (gName 3) (gCons (gName 4) gNil))) (xb_check_dimensions_1 K Rd c1 c2 CB E) [3, 4] (rs.map rowT) [.fr L, nm, .fr (.int (c : Int)), a, b, .no] ρ2 ⟨.ref CB, none⟩)
  | [], c, a, b, _, _ => .inl ⟨rfl, a, b, fun E => by
    show LoopZ K [] _ _ _ [] _ _
    rw [show c * sizeN [] = c from Nat.mul_one c]
    exact .nil⟩
  | r :: rs, c, a, b, h, hc => by
    have sm := h r List.mem_cons_self
    have h1 := hd r sm
    have tg : TgZ K (gTup K 2 (gCons (gName 3) (gCons (gName 4) gNil))) [3, 4] (rowT r) [.fr L, nm, .fr (.int (c : Int)), a, b, .no] [.fr L, nm, .fr (.int (c : Int)), .fr (.str r.1), .fr (.tup (r.2.map .str)), .no] := tg_tup rfl (tgs_cons tg_name (tgs_cons tg_name tgs_nil))
    have tt : TsZ K (tNot (tB (tCall (SpZ K Rd) [] E0 (tCons (tVar 3) (tCons (tVar 4) tNil))))) [.fr L, nm, .fr (.int (c : Int)), .fr (.str r.1), .fr (.tup (r.2.map .str)), .no] [.fr L, nm, .fr (.int (c : Int)), .fr (.str r.1), .fr (.tup (r.2.map .str)), .no] (!dimB r) := ts_not (ts_B (ev_callF (ds := [.str r.1, .tup (r.2.map .str)]) (ag_cons (ev_var (i := 3) rfl) (ag_cons (ev_var (i := 4) rfl) ag_nil)) h1))
    cases q : dimB r with
    | false =>
      rw [q] at tt
      exact .inr ⟨by rw [List.all_cons, q]; rfl, _, fun E => .here tg (xx_seqX (xx_ifT tt xx_raise0))⟩
    | true =>
      rw [q] at tt
      have ln := dim_len q
      have c8 : c ≤ 8 ^ 10 := Nat.le_trans (Nat.le_mul_of_pos_right _ (Nat.pos_of_ne_zero (by simp))) hc
      have lt : (r.2.map D.str).length = r.2.length := List.length_map ..
      have e3 : ((c : Int) * ((r.2.map D.str).length : Int)) = ((c * r.2.length : Nat) : Int) := by rw [lt]; exact (Int.natCast_mul _ _).symm
      have st : ∀ E, ExZ K [] (xb_check_dimensions_1 K Rd c1 c2 CB E) [.fr L, nm, .fr (.int (c : Int)), .fr (.str r.1), .fr (.tup (r.2.map .str)), .no] (.nx [.fr L, nm, .fr (.int ((c * r.2.length : Nat) : Int)), .fr (.str r.1), .fr (.tup (r.2.map .str)), .no]) := fun E => by
        have z := ex_set (K := K) (S := []) (i := 2) (ev_mul (ev_i1 (ρ := [.fr L, nm, .fr (.int (c : Int)), .fr (.str r.1), .fr (.tup (r.2.map .str)), .no]) (i := 2) (n := (c : Int)) rfl) (ev_lenT (ds := r.2.map D.str) (ev_var (i := 4) rfl).rd) (.inr ⟨by rw [lt]; omega, by rw [lt]; omega⟩)) (by decide)
        rw [e3] at z
        exact ex_seq (ex_ifF tt ex_next) z
      have e : c * sizeN (r :: rs) = c * r.2.length * sizeN rs := (Nat.mul_assoc _ _ _).symm
      have hc' : c * r.2.length * 8 ^ rs.length ≤ 8 ^ 10 := by
        refine Nat.le_trans ?_ hc
        rw [List.length_cons, Nat.pow_succ, Nat.mul_comm (8 ^ rs.length) 8, ← Nat.mul_assoc]
        exact Nat.mul_le_mul_right _ (Nat.mul_le_mul_left _ ln.2)
      rcases chk_loop hd L nm rs (c * r.2.length) (.fr (.str r.1)) (.fr (.tup (r.2.map .str))) (fun x hx => h x (List.mem_cons_of_mem _ hx)) hc' with ⟨p, a', b', lp⟩ | ⟨p, ρ2, lp⟩
      · exact .inl ⟨by rw [List.all_cons, q, p]; rfl, a', b', fun E => by rw [e]; exact .step tg (st E) (lp E)⟩
      · exact .inr ⟨by rw [List.all_cons, q, p]; rfl, ρ2, fun E => .step tg (st E) (lp E)⟩
/-- check_dimensions: the end it has -/
def CChkX (CB : Addr) (R : Rel) (RX : RelX) : Prop := ∀ rs : List Row, (∀ r ∈ rs, Small r) → rs.length ≤ 8 →
  (dimsB rs = true → R ([rowsD rs].map .fr) (.fr .non) ([rowsD rs].map .fr)) ∧ (dimsB rs = false → RX ([rowsD rs].map .fr) ⟨.ref CB, none⟩ ([rowsD rs].map .fr))
theorem rel_chkX {Rd : Rel} (hd : CIsD Rd) : CChkX CB (RelOfE K [] (fun E => tx_check_dimensions K Rd (.int 48) (.int 3) CB E) 6 1) (RelOfX K [] (fun E => tx_check_dimensions K Rd (.int 48) (.int 3) CB E) 6 1) := fun rs sm hl => by
  have hlen : (rs.map rowT).length = rs.length := List.length_map ..
  have fx : ∀ {ρ : Rho}, FinZ [] [.fr (rowsD rs)] [.fr (rowsD rs)] ρ (.fr .non) := fin_fr (ds := [rowsD rs])
  have yes : (∃ ρ2, ∀ E, ExZ K [] (tx_check_dimensions K Rd (.int 48) (.int 3) CB E) [.fr (rowsD rs), .no, .no, .no, .no, .no] (.nx ρ2)) → RelOfE K [] (fun E => tx_check_dimensions K Rd (.int 48) (.int 3) CB E) 6 1 ([rowsD rs].map .fr) (.fr .non) ([rowsD rs].map .fr) := fun ⟨ρ2, h⟩ => ⟨rfl, ρ2, .inr ⟨rfl, h⟩, fx⟩
  have no : (∃ ρ2, ∀ E, ExX K [] (wOf E) (tx_check_dimensions K Rd (.int 48) (.int 3) CB E) [.fr (rowsD rs), .no, .no, .no, .no, .no] ρ2 ⟨.ref CB, none⟩) → RelOfX K [] (fun E => tx_check_dimensions K Rd (.int 48) (.int 3) CB E) 6 1 ([rowsD rs].map .fr) ⟨.ref CB, none⟩ ([rowsD rs].map .fr) := fun ⟨ρ2, h⟩ => ⟨rfl, ρ2, h, fx⟩
  have t1 : TsZ K (tNot (tTest (tChain rLeI rLeI (tC (.int 1)) (tCB (rLenX K) (tCons (tVar 0) tNil)) (tC (.int 3))))) [.fr (rowsD rs), .no, .no, .no, .no, .no] [.fr (rowsD rs), .no, .no, .no, .no, .no] (!(decide ((1 : Int) ≤ (rs.length : Int)) && decide ((rs.length : Int) ≤ 3))) :=
    ts_is (ts_not (ts_test (ev_chainI (p := fun i j => decide (i ≤ j)) (p' := fun i j => decide (i ≤ j)) ev_int (ev_lenT (ds := rs.map rowT) (ev_var (i := 0) rfl).rd) ev_int))) (by rw [hlen])
  have s2 : ∀ E, ExZ K [] (tAsg (tLc (iTup K (tVar 0)) (gTup K 2 (gCons (gName 3) (gCons (gName 5) gNil))) tYes (xe_check_dimensions_2 K Rd (.int 48) (.int 3) CB E) [3, 5]) (gName 1)) [.fr (rowsD rs), .no, .no, .no, .no, .no] (.nx [.fr (rowsD rs), .own ((rs.map Prod.fst).map .str), .no, .no, .no, .no]) := fun E =>
    ex_setN (i := 1) (en_lc (A := [3, 5]) (ρ' := [.fr (rowsD rs), .no, .no, .no, .no, .no]) (rs := (rs.map Prod.fst).map .str) (it_tup (ds := rs.map rowT) (ev_var (i := 0) rfl)) (by
      rw [List.map_map]
      exact comp_mapP (K := K) (ρ := [.fr (rowsD rs), .no, .no, .no, .no, .no]) (a := 3) (b := 5) (by decide) (fun (r : Row) => D.str r.1) (fun (r : Row) => D.tup (r.2.map .str)) (fun (r : Row) => D.str r.1) rfl rfl rs fun r _ => ev_var (i := 3) rfl) (by decide) (by rw [hlen]; omega)) OwnIn.refl (by decide)
  have t3 : TsZ K (tTest (tOp rLtI (tLenSetS K (tVar 1)) (tCB (rLenX K) (tCons (tVar 1) tNil)))) [.fr (rowsD rs), .own ((rs.map Prod.fst).map .str), .no, .no, .no, .no] [.fr (rowsD rs), .own ((rs.map Prod.fst).map .str), .no, .no, .no, .no] (decide (((met (rs.map Prod.fst)).length : Int) < (rs.length : Int))) :=
    ts_is (ts_test (ev_lt (ev_lenSet (zs := rs.map Prod.fst) (rd_own (i := 1) rfl) (by rw [List.length_map]; omega)) (ev_lenL (rd_own (i := 1) (ds := (rs.map Prod.fst).map .str) rfl)))) (by rw [List.length_map, List.length_map])
  have s4 : ExZ K [] (tAsg (tC (.int 1)) (gName 2)) [.fr (rowsD rs), .own ((rs.map Prod.fst).map .str), .no, .no, .no, .no] (.nx [.fr (rowsD rs), .own ((rs.map Prod.fst).map .str), .fr (.int ((1 : Nat) : Int)), .no, .no, .no]) := ex_set (i := 2) ev_int (by decide)
  have hp : 1 * 8 ^ rs.length ≤ 8 ^ 10 := by rw [Nat.one_mul]; exact Nat.pow_le_pow_right (by decide) (by omega)
  have lp := chk_loop (K := K) (CB := CB) (c1 := .int 48) (c2 := .int 3) hd (rowsD rs) (.own ((rs.map Prod.fst).map .str)) rs 1 .no .no sm hp
  have t6 : ∀ (a b : Cell), TsZ K (tTest (tOp rGtI (tVar 2) (tC (.int 48)))) [.fr (rowsD rs), .own ((rs.map Prod.fst).map .str), .fr (.int ((1 * sizeN rs : Nat) : Int)), a, b, .no] [.fr (rowsD rs), .own ((rs.map Prod.fst).map .str), .fr (.int ((1 * sizeN rs : Nat) : Int)), a, b, .no] (decide ((48 : Int) < (sizeN rs : Int))) := fun a b => ts_is (ts_test (ev_gt (ev_i1 (i := 2) rfl) ev_int)) (by rw [Nat.one_mul])
  have it0 : ItZ K (iTup K (tVar 0)) [.fr (rowsD rs), .own ((rs.map Prod.fst).map .str), .fr (.int ((1 : Nat) : Int)), .no, .no, .no] [.fr (rowsD rs), .own ((rs.map Prod.fst).map .str), .fr (.int ((1 : Nat) : Int)), .no, .no, .no] (rs.map rowT) := it_tup (ds := rs.map rowT) (ev_var (i := 0) rfl)
  unfold dimsB
  cases q1 : (!(decide ((1 : Int) ≤ (rs.length : Int)) && decide ((rs.length : Int) ≤ 3))) with
  | true =>
    rw [q1] at t1
    exact ⟨(fun h => by cases h), fun _ => no ⟨_, fun E => xx_seqX (xx_ifT t1 xx_raise0)⟩⟩
  | false =>
    rw [q1] at t1
    rw [cond_false]
    have u1 : ∀ E, ExZ K [] (tIfS (tNot (tTest (tChain rLeI rLeI (tC (.int 1)) (tCB (rLenX K) (tCons (tVar 0) tNil)) (tC (.int 3))))) (tRaise0 CB (wOf E)) tNext) [.fr (rowsD rs), .no, .no, .no, .no, .no] (.nx [.fr (rowsD rs), .no, .no, .no, .no, .no]) := fun E => ex_ifF t1 ex_next
    cases q2 : decide (((met (rs.map Prod.fst)).length : Int) < (rs.length : Int)) with
    | true =>
      rw [q2] at t3
      exact ⟨(fun h => by cases h), fun _ => no ⟨_, fun E => xx_seq (u1 E) (xx_seq (s2 E) (xx_seqX (xx_ifT t3 xx_raise0)))⟩⟩
    | false =>
      rw [q2] at t3
      rw [cond_false]
      cases q3 : rs.all dimB with
      | false =>
        refine ⟨(fun h => by cases h), fun _ => ?_⟩
        rcases lp with ⟨p, _⟩ | ⟨_, ρ2, z⟩
        · rw [q3] at p; cases p
        · exact no ⟨_, fun E => xx_seq (u1 E) (xx_seq (s2 E) (xx_seq (ex_ifF t3 ex_next) (xx_seq s4 (xx_seqX (xx_for it0 (z E) (by decide))))))⟩
      | true =>
        rcases lp with ⟨_, a, b, z⟩ | ⟨p, _⟩
        · cases q4 : decide ((48 : Int) < (sizeN rs : Int)) with
          | true => exact ⟨(fun h => by cases h), fun _ => no ⟨_, fun E => xx_seq (u1 E) (xx_seq (s2 E) (xx_seq (ex_ifF t3 ex_next) (xx_seq s4 (xx_seq (ex_for it0 (z E) (by decide)) (xx_ifT (ts_is (t6 a b) q4) xx_raise0)))))⟩⟩
          | false => exact ⟨fun _ => yes ⟨_, fun E => ex_seq (u1 E) (ex_seq (s2 E) (ex_seq (ex_ifF t3 ex_next) (ex_seq s4 (ex_seq (ex_for it0 (z E) (by decide)) (ex_ifF (ts_is (t6 a b) q4) ex_next)))))⟩, (fun h => by cases h)⟩
        · rw [q3] at p; cases p
end
end K03
end Z

set_option Elab.async false
set_option linter.all false
set_option maxRecDepth 100000
set_option maxHeartbeats 4000000
/-! Law03c: good dimensions as they are handed over; Space(..) with both ends. -/
namespace Z
open PySem PySem.Spec PyProof.Rows L2
open Evl (Ex Ex.refl Ex.trans Ex.new ex_rd ex_l ex_t sq_of st_of fresh_back sz_of sz_lt)
namespace K03
def xk_Space___init___1 (K : PySem.W.Frag) (Rx_check_dimensions : Rel) (RX_check_dimensions : RelX) (R__leaves_by_member : Rel) (R__members_by_level : Rel) (R_choices : Rel) (E : XK) : TE :=
  (tVar 3)
def xv_Space___init___1 (K : PySem.W.Frag) (Rx_check_dimensions : Rel) (RX_check_dimensions : RelX) (R__leaves_by_member : Rel) (R__members_by_level : Rel) (R_choices : Rel) (E : XK) : TE :=
  (tVar 4)
def xe_Space___init___2 (K : PySem.W.Frag) (Rx_check_dimensions : Rel) (RX_check_dimensions : RelX) (R__leaves_by_member : Rel) (R__members_by_level : Rel) (R_choices : Rel) (E : XK) : TE :=
  (tVar 3)
def xe_Space___init___3 (K : PySem.W.Frag) (Rx_check_dimensions : Rel) (RX_check_dimensions : RelX) (R__leaves_by_member : Rel) (R__members_by_level : Rel) (R_choices : Rel) (E : XK) : TE :=
  (tLstRg (tRg1 (tCB (rLenX K) (tCons (tVar 3) tNil))))
def xe_Space___init___4 (K : PySem.W.Frag) (Rx_check_dimensions : Rel) (RX_check_dimensions : RelX) (R__leaves_by_member : Rel) (R__members_by_level : Rel) (R_choices : Rel) (E : XK) : TE :=
  (tCall (SpZ K R__leaves_by_member) [] E0 (tCons (tVar 3) tNil))
def xe_Space___init___5 (K : PySem.W.Frag) (Rx_check_dimensions : Rel) (RX_check_dimensions : RelX) (R__leaves_by_member : Rel) (R__members_by_level : Rel) (R_choices : Rel) (E : XK) : TE :=
  (tCall (SpZ K R__members_by_level) [] E0 (tCons (tVar 3) tNil))
def tx_Space___init__ (K : PySem.W.Frag) (Rx_check_dimensions : Rel) (RX_check_dimensions : RelX) (R__leaves_by_member : Rel) (R__members_by_level : Rel) (R_choices : Rel) (E : XK) : TS :=
  (tSeq (tDrop (tCallS (SpX K Rx_check_dimensions RX_check_dimensions) (WE (wOf E)) (tCons (tVar 1) tNil)))
      (tSeq (sFld K (tVar 0) (tVar 1) "dimensions")
      (tSeq (sFld K (tVar 0) (tLc (iTup K (tVar 1)) (gTup K 2 (gCons (gName 2) (gCons (gName 3) gNil))) tYes (xe_Space___init___5 K Rx_check_dimensions RX_check_dimensions R__leaves_by_member R__members_by_level R_choices E) [2, 3]) "_levels")
      (tSeq (sFld K (tVar 0) (tLc (iTup K (tVar 1)) (gTup K 2 (gCons (gName 2) (gCons (gName 3) gNil))) tYes (xe_Space___init___4 K Rx_check_dimensions RX_check_dimensions R__leaves_by_member R__members_by_level R_choices E) [2, 3]) "_leaves")
      (tSeq (sFld K (tVar 0) (tCall (SpZ K R_choices) [] E0 (tCons (tLc (iTup K (tVar 1)) (gTup K 2 (gCons (gName 2) (gCons (gName 3) gNil))) tYes (xe_Space___init___3 K Rx_check_dimensions RX_check_dimensions R__leaves_by_member R__members_by_level R_choices E) [2, 3]) tNil)) "_parts")
      (tSeq (sFld K (tVar 0) (tCall (SpZ K R_choices) [] E0 (tCons (tLc (iTup K (tVar 1)) (gTup K 2 (gCons (gName 2) (gCons (gName 3) gNil))) tYes (xe_Space___init___2 K Rx_check_dimensions RX_check_dimensions R__leaves_by_member R__members_by_level R_choices E) [2, 3]) tNil)) "_cells")
      (tSeq (sFld K (tVar 0) (tDcT (iEnum K (tCons (tFld K (tVar 0) "_cells") tNil)) (gTup K 2 (gCons (gName 4) (gCons (gName 3) gNil))) tYes (xk_Space___init___1 K Rx_check_dimensions RX_check_dimensions R__leaves_by_member R__members_by_level R_choices E) (xv_Space___init___1 K Rx_check_dimensions RX_check_dimensions R__leaves_by_member R__members_by_level R_choices E) [4, 3]) "_numbers")
      (sFld K (tVar 0) (tCB (rLenX K) (tCons (tFld K (tVar 0) "_cells") tNil)) "many"))))))))

theorem met_len : ∀ (xs acc : List Str), acc.Nodup → (xs.foldl addS acc).length ≤ acc.length + xs.length ∧ (acc.length + xs.length ≤ (xs.foldl addS acc).length → (acc ++ xs).Nodup)
  | [], acc, h => ⟨Nat.le_refl _, fun _ => by rw [List.append_nil]; exact h⟩
  | x :: xs, acc, h => by
    rw [List.foldl_cons, List.length_cons]
    by_cases m : x ∈ acc
    · have e : addS acc x = acc := by unfold addS; rw [if_pos m]
      rw [e]
      obtain ⟨a, _⟩ := met_len xs acc h
      exact ⟨by omega, fun z => by omega⟩
    · have e : addS acc x = acc ++ [x] := by unfold addS; rw [if_neg m]
      rw [e]
      have n : (acc ++ [x]).Nodup := by
        rw [List.nodup_append]
        exact ⟨h, by simp, fun a ha b hb z => m (by rw [List.mem_singleton] at hb; rw [← hb, ← z]; exact ha)⟩
      obtain ⟨a, b⟩ := met_len xs (acc ++ [x]) n
      rw [List.length_append, List.length_singleton] at a b
      refine ⟨by omega, fun z => ?_⟩
      have := b (by omega)
      rwa [List.append_assoc] at this
theorem asc_pw : ∀ {ls : List Str}, ascB ls = true → ls.Pairwise fun x y => x.cps.toList < y.cps.toList
  | [], _ => .nil
  | [x], _ => List.pairwise_singleton _ _
  | x :: y :: l, h => by
    have h' : (decide (x.cps.toList < y.cps.toList) && ascB (y :: l)) = true := h
    rw [Bool.and_eq_true, decide_eq_true_eq] at h'
    have ih := asc_pw h'.2
    refine List.pairwise_cons.mpr ⟨fun z hz => ?_, ih⟩
    rcases List.mem_cons.mp hz with rfl | hz
    · exact h'.1
    · exact List.lt_trans h'.1 ((List.pairwise_cons.mp ih).1 z hz)
structure Facts (r : Row) : Prop where
  nm : wordB r.1 = true
  few : 2 ≤ r.2.length
  most : r.2.length ≤ 8
  d1 : 1 ≤ depth r
  d3 : depth r ≤ 3
  lf : ∀ p ∈ r.2, (wordsS p).length = depth r ∧ GoodW (wordsS p)
  asc : r.2.Pairwise fun x y => x.cps.toList < y.cps.toList
theorem facts_of {r : Row} (h : dimB r = true) : Facts r := by
  unfold dimB at h
  cases q : (!wordB r.1 || !(decide ((2 : Int) ≤ (r.2.length : Int)) && decide ((r.2.length : Int) ≤ 8))) with
  | true => rw [q, cond_true] at h; cases h
  | false =>
    rw [q, cond_false] at h
    rw [Bool.or_eq_false_iff, Bool.not_eq_false', Bool.not_eq_false', Bool.and_eq_true, decide_eq_true_eq, decide_eq_true_eq] at q
    obtain ⟨q1, q2, q3⟩ := q
    cases q4 : (!(decide ((1 : Int) ≤ (depth r : Int)) && decide ((depth r : Int) ≤ 3))) with
    | true => rw [q4, cond_true] at h; cases h
    | false =>
      rw [q4, cond_false] at h
      rw [Bool.not_eq_false', Bool.and_eq_true, decide_eq_true_eq, decide_eq_true_eq] at q4
      cases q5 : (!((r.2.map (leafB (depth r))).all id)) with
      | true => rw [q5, cond_true] at h; cases h
      | false =>
        rw [q5, cond_false] at h
        rw [Bool.not_eq_false', List.all_eq_true] at q5
        refine ⟨q1, by omega, by omega, by omega, by omega, fun p hp => ?_, asc_pw h⟩
        have z : leafB (depth r) p = true := q5 _ (List.mem_map.mpr ⟨p, hp, rfl⟩)
        unfold leafB at z
        rw [Bool.and_eq_true, decide_eq_true_eq, List.all_eq_true] at z
        exact ⟨by omega, fun w hw => z.2 _ (List.mem_map.mpr ⟨w, hw, rfl⟩)⟩
def dm (r : Row) : Dm := ⟨r.1, r.2.map wordsS⟩
theorem dm_paths {r : Row} (f : Facts r) : (dm r).paths = r.2 := by
  unfold Dm.paths dm
  show (r.2.map wordsS).map pathS = r.2
  rw [List.map_map]
  refine (List.map_congr_left fun p hp => ?_).trans (List.map_id _)
  exact words_back fun z => by
    have := (f.lf p hp).1
    rw [z] at this
    have := f.d1
    simp at *
    omega
theorem dm_d {r : Row} (f : Facts r) : (dm r).d = rowT r := by
  unfold Dm.d Dm.tupD
  rw [dm_paths f]
  rfl
theorem dm_good {r : Row} (f : Facts r) : (dm r).Good (depth r) where
  name := f.nm
  few := by show 2 ≤ (r.2.map wordsS).length; rw [List.length_map]; exact f.few
  most := by show (r.2.map wordsS).length ≤ 8; rw [List.length_map]; exact f.most
  n1 := f.d1
  n3 := f.d3
  depth := fun ws h => by
    obtain ⟨p, hp, rfl⟩ := List.mem_map.mp (show ws ∈ r.2.map wordsS from h)
    exact (f.lf p hp).1
  words := fun ws h => by
    obtain ⟨p, hp, rfl⟩ := List.mem_map.mp (show ws ∈ r.2.map wordsS from h)
    exact (f.lf p hp).2
  asc := by rw [dm_paths f]; exact f.asc
theorem dm_size : ∀ rs : List Row, cellsN (rs.map dm) = sizeN rs
  | [] => rfl
  | r :: rs => by
    show (r.2.map wordsS).length * cellsN (rs.map dm) = r.2.length * sizeN rs
    rw [List.length_map, dm_size rs]
theorem good_of {rs : List Row} (h : dimsB rs = true) : GoodDs (rs.map dm) ∧ dimsD (rs.map dm) = rowsD rs := by
  unfold dimsB at h
  cases q1 : (!(decide ((1 : Int) ≤ (rs.length : Int)) && decide ((rs.length : Int) ≤ 3))) with
  | true => rw [q1, cond_true] at h; cases h
  | false =>
    rw [q1, cond_false] at h
    rw [Bool.not_eq_false', Bool.and_eq_true, decide_eq_true_eq, decide_eq_true_eq] at q1
    cases q2 : decide (((met (rs.map Prod.fst)).length : Int) < (rs.length : Int)) with
    | true => rw [q2, cond_true] at h; cases h
    | false =>
      rw [q2, cond_false] at h
      rw [decide_eq_false_iff_not] at q2
      cases q3 : rs.all dimB with
      | false => rw [q3] at h; cases h
      | true =>
        rw [q3] at h
        have h48 : (!decide ((48 : Int) < (sizeN rs : Int))) = true := h
        rw [Bool.not_eq_true', decide_eq_false_iff_not] at h48
        have fs : ∀ r ∈ rs, Facts r := fun r hr => facts_of (List.all_eq_true.mp q3 r hr)
        have nd := (met_len (rs.map Prod.fst) [] List.nodup_nil).2 (by
          have e : (met (rs.map Prod.fst)).length = ((rs.map Prod.fst).foldl addS []).length := rfl
          rw [List.length_map, List.length_nil, ← e]
          omega)
        refine ⟨⟨by rw [List.length_map]; omega, by rw [List.length_map]; omega, ?_, fun d hd => ?_, by rw [dm_size]; omega⟩, ?_⟩
        · rw [List.map_map]
          rw [List.nil_append] at nd
          exact nd
        · obtain ⟨r, hr, rfl⟩ := List.mem_map.mp hd
          exact ⟨_, dm_good (fs r hr)⟩
        · unfold dimsD rowsD
          rw [List.map_map]
          exact congrArg D.tup (List.map_congr_left fun r hr => dm_d (fs r hr))
section
variable {K : PySem.W.Frag}
theorem init_ok {C : Addr} {Rc Rl Rm Rh : Rel} {RXc : RelX} (c : Cls K C) (na : ∀ f ∈ spNames, NoAttr K C f) (hl : Spec Rl PreLb PostLb) (hm : Spec Rm PreMem PostMem) (hh : Spec Rh PreCh PostCh) {ds : List Dm} (g : GoodDs ds) (h1 : Rc [.fr (dimsD ds)] (.fr .non) [.fr (dimsD ds)]) :
    RelOfE K [0] (fun E => tx_Space___init__ K Rc RXc Rl Rm Rh E) 5 2 [.mu (.ins C []), .fr (dimsD ds)] (.fr .non) [.mu (.ins C (spF ds)), .fr (dimsD ds)] := by
  have d9 : ds.length ≤ 90 := by have := g.most; omega
  have row : ∀ (d : Dm), d ∈ ds → 1 ≤ d.leaves.length := fun d hd => by have := (g.at_ hd).few; omega
  have lvt : ∀ d : Dm, d.tupD = lvD d.leaves := fun d => by
    unfold Dm.tupD Dm.paths
    rw [List.map_map]
    rfl
  have key : ∃ ρ2, ρ2[0]? = some (.mu (.ins C (spF ds))) ∧ ∀ E, ExZ K [0] (tx_Space___init__ K Rc RXc Rl Rm Rh E) [.mu (.ins C []), .fr (dimsD ds), .no, .no, .no] (.nx ρ2) := by
    -- the parts
    obtain ⟨r4, cs4, h4, rfl, p4⟩ := hh _ ⟨ds.map fun d => (false, rangeD 0 d.leaves.length), rfl, by rw [List.length_map]; omega, fun r hr => by
      obtain ⟨d, hd, rfl⟩ := List.mem_map.mp hr
      show 1 ≤ (rangeD 0 d.leaves.length).length
      rw [rangeD_len]
      exact row d hd, by rw [prodN_dims false (fun d => rangeD 0 d.leaves.length) fun d => rangeD_len ..]; exact g.cells⟩
    obtain rfl := p4 _ rfl
    obtain ⟨r5, cs5, h5, rfl, p5⟩ := hh _ ⟨ds.map fun d => (true, d.paths.map .str), rfl, by rw [List.length_map]; omega, fun r hr => by
      obtain ⟨d, hd, rfl⟩ := List.mem_map.mp hr
      show 1 ≤ (d.paths.map D.str).length
      rw [lenTup]
      exact row d hd, by rw [prodN_dims true (fun d => d.paths.map .str) lenTup]; exact g.cells⟩
    obtain rfl := p5 _ rfl
    have e4 : (ds.map fun d => ((false, rangeD 0 d.leaves.length) : Bool × List D)).map rowD = ds.map fun d => D.lst (rangeD 0 d.leaves.length) := by rw [List.map_map]; rfl
    have e5 : (ds.map fun d => ((true, d.paths.map .str) : Bool × List D)).map rowD = ds.map Dm.tupD := by rw [List.map_map]; rfl
    have e6 : (choicesD ((ds.map fun d => ((false, rangeD 0 d.leaves.length) : Bool × List D)).map (·.2))).map D.tup = (choicesD (ds.map fun d => rangeD 0 d.leaves.length)).map D.tup := by rw [List.map_map]; rfl
    have e7 : (choicesD ((ds.map fun d => ((true, d.paths.map .str) : Bool × List D)).map (·.2))).map D.tup = (celS ds).map celT := by
      have : (ds.map fun d => ((true, d.paths.map .str) : Bool × List D)).map (·.2) = (ds.map Dm.paths).map fun r => r.map D.str := by rw [List.map_map, List.map_map]; rfl
      rw [this, choices_map, List.map_map]
      rfl
    rw [e4, e6] at h4
    rw [e5, e7] at h5
    refine ⟨_, ?_, fun E => ex_seq (ex_drop (ev_callXF (ds := [dimsD ds]) (ag_cons (ev_var (i := 1) rfl) ag_nil) h1)) (ex_seq (ex_fld (fs0 := []) (i := 0) (fs := []) c (na _ (by decide)) (ev_var (i := 1) rfl) rfl (by simp))
      (ex_seq (ex_fld (fs0 := []) (i := 0) (fs := [("dimensions", dimsD ds)]) c (na _ (by decide)) ((dims_comp (K := K) (f := fun d => .lst (levelsD d.leaves (d.dep + 1))) (c0 := .mu (.ins C [("dimensions", dimsD ds)])) (fun d hd => ?_) d9).ev .refl) rfl (by simp))
      (ex_seq (ex_fld (fs0 := []) (i := 0) (fs := [("dimensions", dimsD ds), ("_levels", lvlD ds)]) c (na _ (by decide)) ((dims_comp (K := K) (f := fun d => .dK (kdD (lbm d.leaves (d.dep + 1)))) (c0 := .mu (.ins C [("dimensions", dimsD ds), ("_levels", lvlD ds)])) (fun d hd => ?_) d9).ev .refl) rfl (by simp))
      (ex_seq (ex_fld (fs0 := []) (i := 0) (fs := [("dimensions", dimsD ds), ("_levels", lvlD ds), ("_leaves", lvsD ds)]) c (na _ (by decide)) ((en_callF (ag_cons ((dims_comp (K := K) (f := fun d => .lst (rangeD 0 d.leaves.length)) (c0 := .mu (.ins C [("dimensions", dimsD ds), ("_levels", lvlD ds), ("_leaves", lvsD ds)])) (fun d hd => ?_) d9).ev .refl) ag_nil) h4).ev .refl) rfl (by simp))
      (ex_seq (ex_fld (fs0 := []) (i := 0) (fs := [("dimensions", dimsD ds), ("_levels", lvlD ds), ("_leaves", lvsD ds), ("_parts", prtD ds)]) c (na _ (by decide)) ((en_callF (ag_cons ((dims_comp (K := K) (f := Dm.tupD) (c0 := .mu (.ins C [("dimensions", dimsD ds), ("_levels", lvlD ds), ("_leaves", lvsD ds), ("_parts", prtD ds)])) (fun d hd => ev_var (i := 3) rfl) d9).ev .refl) ag_nil) h5).ev .refl) rfl (by simp))
      (ex_seq (ex_fld (fs0 := []) (i := 0) (fs := [("dimensions", dimsD ds), ("_levels", lvlD ds), ("_leaves", lvsD ds), ("_parts", prtD ds), ("_cells", celD ds)]) c (na _ (by decide)) (ev_dcT (A := [4, 3]) (out := numA 0 (celS ds) []) (it_enumL (ds := (celS ds).map celT) (ag_cons (ev_fldO (i := 0) c (na "_cells" (by decide)) rfl (by rfl)) ag_nil)) (num_comp (Rl := Rl) (Rm := Rm) (Rc := Rc) (Rh := Rh) (celS ds) 0 []) (by decide) .refl ?_) rfl (by simp))
      (ex_fld (fs0 := []) (i := 0) (fs := [("dimensions", dimsD ds), ("_levels", lvlD ds), ("_leaves", lvsD ds), ("_parts", prtD ds), ("_cells", celD ds), ("_numbers", numD ds)]) c (na _ (by decide)) (ev_lenL (ds := (celS ds).map celT) (ev_fldO (i := 0) c (na "_cells" (by decide)) rfl (by rfl)).rd) rfl (by simp))))))))⟩
    · rfl
    · obtain ⟨r, cs', q1, rfl, q2⟩ := hm _ ⟨d.leaves, d.dep, rfl, row d hd, by have := (g.at_ hd).most; omega, by have := (g.at_ hd).n3; omega, fun ws hws => ⟨(g.at_ hd).words ws hws, (g.at_ hd).depth ws hws⟩⟩
      obtain rfl := q2 _ d.dep (row d hd) (fun ws hws => ⟨(g.at_ hd).words ws hws, (g.at_ hd).depth ws hws⟩) rfl
      exact (en_callF (ds := [d.tupD]) (ag_cons (ev_var (i := 3) rfl) ag_nil) (by rw [lvt d]; exact q1)).ev .refl
    · obtain ⟨r, cs', q1, rfl, q2⟩ := hl _ ⟨d.leaves, d.dep, rfl, row d hd, by have := (g.at_ hd).most; omega, by have := (g.at_ hd).n3; omega, fun ws hws => ⟨(g.at_ hd).words ws hws, (g.at_ hd).depth ws hws⟩⟩
      obtain rfl := q2 _ d.dep (row d hd) (fun ws hws => ⟨(g.at_ hd).words ws hws, (g.at_ hd).depth ws hws⟩) rfl
      exact ev_callF (ds := [d.tupD]) (ag_cons (ev_var (i := 3) rfl) ag_nil) (by rw [lvt d]; exact q1)
    · have q := en_lstRg (K := K) (ev_lenT (ds := d.paths.map D.str) (ev_var (ρ := [.mu (.ins C [("dimensions", dimsD ds), ("_levels", lvlD ds), ("_leaves", lvsD ds)]), .fr (dimsD ds), .fr (.str d.name), .fr d.tupD, .no]) (i := 3) rfl).rd) (by rw [lenTup]; have := (g.at_ hd).most; omega)
      rw [lenTup, Int.toNat_natCast] at q
      exact q.ev .refl
    · rw [enumD_len, List.length_map, celS_len]
      have := g.cells
      omega
  obtain ⟨ρ2, h0, h⟩ := key
  exact ⟨rfl, ρ2, .inr ⟨rfl, fun E => h E⟩, fin_mu (ds := [dimsD ds]) (by decide) h0⟩
/-- Space(dimensions) from inside: the end it has -/
def CSpX (C CB : Addr) (R : Rel) (RX : RelX) : Prop := ∀ rs : List Row, (∀ r ∈ rs, Small r) → rs.length ≤ 8 →
  (dimsB rs = true → R [.mu (.ins C []), .fr (rowsD rs)] (.fr .non) [.mu (.ins C (spF (rs.map dm))), .fr (rowsD rs)]) ∧ (dimsB rs = false → RX [.mu (.ins C []), .fr (rowsD rs)] ⟨.ref CB, none⟩ [.no, .fr (rowsD rs)])
theorem fin_no1 {C : Addr} {d e : D} {ρ' : Rho} : FinZ [0] [.mu (.ins C []), .fr d] [.no, .fr d] ρ' (.fr e) := by
  refine ⟨rfl, fun i es h => ?_, fun i x h => ?_, fun _ z => by cases z⟩
  · match i, h with
    | 0, h => cases h
    | 1, h => cases h
    | i + 2, h => cases h
  · match i, h with
    | 0, h => cases h
    | 1, h => exact h
    | i + 2, h => cases h
theorem rel_spX {C CB : Addr} {Rc Rl Rm Rh : Rel} {RXc : RelX} (c : Cls K C) (na : ∀ f ∈ spNames, NoAttr K C f) (hl : Spec Rl PreLb PostLb) (hm : Spec Rm PreMem PostMem) (hh : Spec Rh PreCh PostCh) (hc : CChkX CB Rc RXc) :
    CSpX C CB (RelOfE K [0] (fun E => tx_Space___init__ K Rc RXc Rl Rm Rh E) 5 2) (RelOfX K [0] (fun E => tx_Space___init__ K Rc RXc Rl Rm Rh E) 5 2) := fun rs sm hl8 => by
  obtain ⟨a, b⟩ := hc rs sm hl8
  refine ⟨fun h => ?_, fun h => ?_⟩
  · obtain ⟨g, e⟩ := good_of h
    have := init_ok (K := K) (RXc := RXc) c na hl hm hh g (by rw [e]; exact a h)
    rw [e] at this
    exact this
  · exact ⟨rfl, _, fun E => xx_seqX (xx_drop (ex_callX (ds := [rowsD rs]) (ag_cons (ev_var (ρ := [.mu (.ins C []), .fr (rowsD rs), .no, .no, .no]) (i := 1) rfl) ag_nil) (b h))), fin_no1⟩
end
end K03
end Z

set_option Elab.async false
set_option linter.all false
set_option maxRecDepth 100000
set_option maxHeartbeats 4000000
/-! Law03d: dimensions by the law's own words. -/
namespace Z
open PySem PySem.Spec PyProof.Rows L2
open Evl (Ex Ex.refl Ex.trans Ex.new ex_rd ex_l ex_t sq_of st_of fresh_back sz_of sz_lt)
namespace K03
abbrev rLeS : R2 := fun x y H Q => ∃ i j, x = .str i ∧ y = .str j ∧ Q (.bl (!decide (j.cps.toList < i.cps.toList))) H
def e__law_leaf_rows_1 (K : PySem.W.Frag) (R__law_is_word : Rel) : TE :=
  (tCall (SpZ K R__law_is_word) [] E0 (tCons (tVar 4) tNil))
def b__law_leaf_rows_2 (K : PySem.W.Frag) (R__law_is_word : Rel) : TS :=
  (tSeq (tAsg (tM1 rSplit (tOp (rIx K) (tVar 0) (tVar 2)) (tC (.str "/"))) (gName 3))
      (tSeq (tIfS (tOr (tTest (tOp rNe (tCB (rLenX K) (tCons (tVar 3) tNil)) (tVar 1))) (tNot (tB (tCB (rAll K) (tCons (tLc (iList K (tVar 3)) (gName 4) tYes (e__law_leaf_rows_1 K R__law_is_word) [4]) tNil))))) (tRet (tC (.bl false))) tNext)
      (tIfS (tAnd (tTest (tOp rGtI (tVar 2) (tC (.int 0)))) (tTest (tOp rLeS (tOp (rIx K) (tVar 0) (tVar 2)) (tOp (rIx K) (tVar 0) (tOp rSubI (tVar 2) (tC (.int 1))))))) (tRet (tC (.bl false))) tNext)))
def t__law_leaf_rows (K : PySem.W.Frag) (R__law_is_word : Rel) : TS :=
  (tSeq (tIfS (tOr (tTest (tOp rLtI (tCB (rLenX K) (tCons (tVar 0) tNil)) (tC (.int 2)))) (tTest (tOp rGtI (tCB (rLenX K) (tCons (tVar 0) tNil)) (tC (.int 8))))) (tRet (tC (.bl false))) tNext)
      (tSeq (tAsg (tCB (rLenX K) (tCons (tM1 rSplit (tOp (rIx K) (tVar 0) (tC (.int 0))) (tC (.str "/"))) tNil)) (gName 1))
      (tSeq (tIfS (tTest (tOp rGtI (tVar 1) (tC (.int 3)))) (tRet (tC (.bl false))) tNext)
      (tSeq (tFor (iRng1 (tCons (tCB (rLenX K) (tCons (tVar 0) tNil)) tNil)) (gName 2) (b__law_leaf_rows_2 K R__law_is_word))
      (tRet (tC (.bl true)))))))

section
variable {K : PySem.W.Frag} {ρ ρ1 ρ2 : Rho} {ta tb : TE}
theorem ev_leS {i j : Str} (ha : EvZ K ta ρ ρ1 (.str i)) (hb : EvZ K tb ρ1 ρ2 (.str j)) : EvZ K (tOp rLeS ta tb) ρ ρ2 (.bl (!decide (j.cps.toList < i.cps.toList))) := fun M G H σ S Q q =>
  ha M G H σ S _ fun u G1 H1 g1 s1 du => hb M G1 H1 σ s1 _ fun v G2 H2 g2 s2 dv => ⟨i, j, du.str_inv, dv.str_inv, q _ G2 H2 (g1.trans g2) s2 (.bl _)⟩
def goodL (ls : List Str) (d : Nat) (i : Nat) : Bool :=
  !(!decide (((Txt.split (ls.getD i "") slS).length : Int) = (d : Int)) || !((Txt.split (ls.getD i "") slS).map wordB).all id) && !(decide ((0 : Int) < (i : Int)) && !decide ((ls.getD (i - 1) "").cps.toList < (ls.getD i "").cps.toList))
theorem get_D {ls : List Str} {i : Nat} (h : i < ls.length) : (ls.map D.str)[i]? = some (.str (ls.getD i "")) := by
  rw [List.getElem?_map, List.getElem?_eq_getElem h, List.getD_eq_getElem?_getD, List.getElem?_eq_getElem h]
  rfl
theorem leaf_loop {Rw : Rel} (hw : CWd Rw) {ls : List Str} (hl : ls.length ≤ 100) (hs : ∀ p ∈ ls, p.length ≤ 5000) (d : Nat) : ∀ (n m : Nat) (c2 c3 : Cell), m + n = ls.length →
    (((List.range' m n).all (goodL ls d) = true ∧ ∃ c2' c3', LoopZ K [] (gName 2) (b__law_leaf_rows_2 K Rw) [2] (rangeD (m : Int) n) [.fr (.tup (ls.map .str)), .fr (.int (d : Int)), c2, c3, .no] (.nx [.fr (.tup (ls.map .str)), .fr (.int (d : Int)), c2', c3', .no])) ∨
     ((List.range' m n).all (goodL ls d) = false ∧ ∃ ρ2, LoopZ K [] (gName 2) (b__law_leaf_rows_2 K Rw) [2] (rangeD (m : Int) n) [.fr (.tup (ls.map .str)), .fr (.int (d : Int)), c2, c3, .no] (.rt ρ2 (.fr (.bl false)))))
  | 0, m, c2, c3, h => .inl ⟨rfl, c2, c3, .nil⟩
  | n + 1, m, c2, c3, h => by
    have hm : m < ls.length := by omega
    have e0 := get_D hm
    have lm : ls.getD m "" ∈ ls := by
      rw [List.getD_eq_getElem?_getD, List.getElem?_eq_getElem hm]
      exact List.getElem_mem hm
    have l1 := hs _ lm
    have sl := split_len (ls.getD m "")
    rw [rangeD_cons, List.range'_succ, List.all_cons]
    have s1 : ExZ K [] (tAsg (tM1 rSplit (tOp (rIx K) (tVar 0) (tVar 2)) (tC (.str "/"))) (gName 3)) [.fr (.tup (ls.map .str)), .fr (.int (d : Int)), .fr (.int (m : Int)), c3, .no] (.nx [.fr (.tup (ls.map .str)), .fr (.int (d : Int)), .fr (.int (m : Int)), .own ((Txt.split (ls.getD m "") slS).map .str), .no]) :=
      ex_setN (i := 3) (en_split (ev_ixT (ds := ls.map D.str) (ev_var (i := 0) rfl) (ev_var (i := 2) rfl) (at_nat e0)) ev_str (by decide +kernel) (by omega)) .refl (by decide)
    have cm : CompZ K (gName 4) tYes (e__law_leaf_rows_1 K Rw) [4] [4] ((Txt.split (ls.getD m "") slS).map D.str) [.fr (.tup (ls.map .str)), .fr (.int (d : Int)), .fr (.int (m : Int)), .fr (.lst ((Txt.split (ls.getD m "") slS).map .str)), .no] ((Txt.split (ls.getD m "") slS).map fun w => D.bl (wordB w)) [.fr (.tup (ls.map .str)), .fr (.int (d : Int)), .fr (.int (m : Int)), .fr (.lst ((Txt.split (ls.getD m "") slS).map .str)), .no] :=
      comp_mapA (K := K) (j := 4) D.str (fun w => D.bl (wordB w)) rfl _ fun w hw' => ev_callF (ds := [.str w]) (ag_cons (ev_var (i := 4) rfl) ag_nil) (hw w (by have := sl.2 w hw'; omega))
    have t2 : TsZ K (tOr (tTest (tOp rNe (tCB (rLenX K) (tCons (tVar 3) tNil)) (tVar 1))) (tNot (tB (tCB (rAll K) (tCons (tLc (iList K (tVar 3)) (gName 4) tYes (e__law_leaf_rows_1 K Rw) [4]) tNil))))) [.fr (.tup (ls.map .str)), .fr (.int (d : Int)), .fr (.int (m : Int)), .fr (.lst ((Txt.split (ls.getD m "") slS).map .str)), .no] [.fr (.tup (ls.map .str)), .fr (.int (d : Int)), .fr (.int (m : Int)), .fr (.lst ((Txt.split (ls.getD m "") slS).map .str)), .no] (!decide (((Txt.split (ls.getD m "") slS).length : Int) = (d : Int)) || !((Txt.split (ls.getD m "") slS).map wordB).all id) :=
      ts_or (ts_is (ts_test (ev_neI (ev_lenL (ds := (Txt.split (ls.getD m "") slS).map D.str) (ev_var (i := 3) rfl).rd) (ev_var (i := 1) rfl))) (by rw [List.length_map])) fun _ => ts_not (ts_B (ev_all (EvN.rd (ds := ((Txt.split (ls.getD m "") slS).map wordB).map D.bl) (by
        rw [List.map_map]
        exact en_lc (it_list (ev_var (i := 3) rfl)) cm (by decide) (by rw [List.length_map]; omega)))))
    have t3 : TsZ K (tAnd (tTest (tOp rGtI (tVar 2) (tC (.int 0)))) (tTest (tOp rLeS (tOp (rIx K) (tVar 0) (tVar 2)) (tOp (rIx K) (tVar 0) (tOp rSubI (tVar 2) (tC (.int 1))))))) [.fr (.tup (ls.map .str)), .fr (.int (d : Int)), .fr (.int (m : Int)), .fr (.lst ((Txt.split (ls.getD m "") slS).map .str)), .no] [.fr (.tup (ls.map .str)), .fr (.int (d : Int)), .fr (.int (m : Int)), .fr (.lst ((Txt.split (ls.getD m "") slS).map .str)), .no] (decide ((0 : Int) < (m : Int)) && !decide ((ls.getD (m - 1) "").cps.toList < (ls.getD m "").cps.toList)) :=
      ts_and (ts_test (ev_gt (ev_var (i := 2) rfl) ev_int)) fun q => by
        have q' := of_decide_eq_true q
        have e1 : (m : Int) - 1 = ((m - 1 : Nat) : Int) := by omega
        exact ts_test (ev_leS (ev_ixT (ds := ls.map D.str) (ev_var (i := 0) rfl) (ev_var (i := 2) rfl) (at_nat e0)) (ev_ixT (ds := ls.map D.str) (ev_var (i := 0) rfl) (ev_sub (ev_var (i := 2) rfl) ev_int) (by rw [e1]; exact at_nat (get_D (by omega)))))
    cases q2 : (!decide (((Txt.split (ls.getD m "") slS).length : Int) = (d : Int)) || !((Txt.split (ls.getD m "") slS).map wordB).all id) with
    | true => exact .inr ⟨by unfold goodL; rw [q2]; rfl, _, .ret tg_name (ex_seq s1 (ex_freeze (i := 3) rfl (ex_seqR (ex_ifT (ts_is t2 q2) (ex_ret ev_bl)))))⟩
    | false =>
      cases q3 : (decide ((0 : Int) < (m : Int)) && !decide ((ls.getD (m - 1) "").cps.toList < (ls.getD m "").cps.toList)) with
      | true => exact .inr ⟨by unfold goodL; rw [q2, q3]; rfl, _, .ret tg_name (ex_seq s1 (ex_freeze (i := 3) rfl (ex_seq (ex_ifF (ts_is t2 q2) ex_next) (ex_ifT (ts_is t3 q3) (ex_ret ev_bl)))))⟩
      | false =>
        have g : goodL ls d m = true := by unfold goodL; rw [q2, q3]; rfl
        have st := ex_seq s1 (ex_freeze (i := 3) rfl (ex_seq (us := tIfS (tAnd (tTest (tOp rGtI (tVar 2) (tC (.int 0)))) (tTest (tOp rLeS (tOp (rIx K) (tVar 0) (tVar 2)) (tOp (rIx K) (tVar 0) (tOp rSubI (tVar 2) (tC (.int 1))))))) (tRet (tC (.bl false))) tNext) (ex_ifF (ts := tRet (tC (.bl false))) (ts_is t2 q2) ex_next) (ex_ifF (ts_is t3 q3) ex_next)))
        rcases leaf_loop hw hl hs d n (m + 1) (.fr (.int (m : Int))) (.fr (.lst ((Txt.split (ls.getD m "") slS).map .str))) (by omega) with ⟨p, a, b, lp⟩ | ⟨p, ρ2, lp⟩
        · exact .inl ⟨by rw [g, p]; rfl, a, b, .step tg_name st lp⟩
        · exact .inr ⟨by rw [g, p]; rfl, ρ2, .step tg_name st lp⟩
def leafRowsB (ls : List Str) : Bool :=
  bif decide ((ls.length : Int) < 2) || decide ((8 : Int) < (ls.length : Int)) then false else
  bif decide ((3 : Int) < ((Txt.split (ls.getD 0 "") slS).length : Int)) then false else (List.range' 0 ls.length).all (goodL ls (Txt.split (ls.getD 0 "") slS).length)
def CLr (R : Rel) : Prop := ∀ ls : List Str, ls.length ≤ 100 → (∀ p ∈ ls, p.length ≤ 5000) → R ([.tup (ls.map .str)].map .fr) (.fr (.bl (leafRowsB ls))) ([.tup (ls.map .str)].map .fr)
theorem rel_lr {Rw : Rel} (hw : CWd Rw) : CLr (RelOf K [] (t__law_leaf_rows K Rw) 5 1) := fun ls hl hs => by
  have lm : (ls.map D.str).length = ls.length := List.length_map ..
  refine rel_rt (ds := [.tup (ls.map .str)]) ?_
  unfold leafRowsB
  have t1 : TsZ K (tOr (tTest (tOp rLtI (tCB (rLenX K) (tCons (tVar 0) tNil)) (tC (.int 2)))) (tTest (tOp rGtI (tCB (rLenX K) (tCons (tVar 0) tNil)) (tC (.int 8))))) [.fr (.tup (ls.map .str)), .no, .no, .no, .no] [.fr (.tup (ls.map .str)), .no, .no, .no, .no] (decide ((ls.length : Int) < 2) || decide ((8 : Int) < (ls.length : Int))) :=
    ts_or (ts_is (ts_test (ev_lt (ev_lenT (ds := ls.map D.str) (ev_var (i := 0) rfl).rd) ev_int)) (by rw [lm])) fun _ => ts_is (ts_test (ev_gt (ev_lenT (ds := ls.map D.str) (ev_var (i := 0) rfl).rd) ev_int)) (by rw [lm])
  refine ex_when t1 (fun h => ⟨_, ex_ret (ev_is ev_bl (by rw [h]; rfl))⟩) fun h1 => ?_
  rw [h1, cond_false]
  rw [Bool.or_eq_false_iff, decide_eq_false_iff_not, decide_eq_false_iff_not] at h1
  have h0 : 0 < ls.length := by omega
  have e0 := get_D h0
  have l0 : (ls.getD 0 "").length ≤ 5000 := hs _ (by
    rw [List.getD_eq_getElem?_getD, List.getElem?_eq_getElem h0]
    exact List.getElem_mem h0)
  have s2 : ExZ K [] (tAsg (tCB (rLenX K) (tCons (tM1 rSplit (tOp (rIx K) (tVar 0) (tC (.int 0))) (tC (.str "/"))) tNil)) (gName 1)) [.fr (.tup (ls.map .str)), .no, .no, .no, .no] (.nx [.fr (.tup (ls.map .str)), .fr (.int ((Txt.split (ls.getD 0 "") slS).length : Int)), .no, .no, .no]) :=
    ex_set (i := 1) (ev_is (ev_lenL (EvN.rd (en_split (ev_ixT (i := 0) (ds := ls.map D.str) (ev_var (i := 0) rfl) ev_int (at_nat (j := 0) e0)) ev_str (by decide +kernel) (by omega)))) (by rw [List.length_map]; rfl)) (by decide)
  have t3 : TsZ K (tTest (tOp rGtI (tVar 1) (tC (.int 3)))) [.fr (.tup (ls.map .str)), .fr (.int ((Txt.split (ls.getD 0 "") slS).length : Int)), .no, .no, .no] [.fr (.tup (ls.map .str)), .fr (.int ((Txt.split (ls.getD 0 "") slS).length : Int)), .no, .no, .no] (decide ((3 : Int) < ((Txt.split (ls.getD 0 "") slS).length : Int))) := ts_test (ev_gt (ev_i1 (i := 1) rfl) ev_int)
  have it : ItZ K (iRng1 (tCons (tCB (rLenX K) (tCons (tVar 0) tNil)) tNil)) [.fr (.tup (ls.map .str)), .fr (.int ((Txt.split (ls.getD 0 "") slS).length : Int)), .no, .no, .no] [.fr (.tup (ls.map .str)), .fr (.int ((Txt.split (ls.getD 0 "") slS).length : Int)), .no, .no, .no] (rangeD 0 ls.length) := by
    have z := it_range1 (K := K) (n := ((ls.map D.str).length : Int)) (ag_cons (ev_lenT (ds := ls.map D.str) (EvZ.rd (ev_var (ρ := [.fr (.tup (ls.map .str)), .fr (.int ((Txt.split (ls.getD 0 "") slS).length : Int)), .no, .no, .no]) (i := 0) rfl))) ag_nil) ⟨by omega, by rw [lm]; omega⟩
    rwa [Int.toNat_natCast, lm] at z
  have k : ∃ ρ2, ExZ K [] (tSeq (tIfS (tTest (tOp rGtI (tVar 1) (tC (.int 3)))) (tRet (tC (.bl false))) tNext) (tSeq (tFor (iRng1 (tCons (tCB (rLenX K) (tCons (tVar 0) tNil)) tNil)) (gName 2) (b__law_leaf_rows_2 K Rw)) (tRet (tC (.bl true))))) [.fr (.tup (ls.map .str)), .fr (.int ((Txt.split (ls.getD 0 "") slS).length : Int)), .no, .no, .no] (.rt ρ2 (.fr (.bl (bif decide ((3 : Int) < ((Txt.split (ls.getD 0 "") slS).length : Int)) then false else (List.range' 0 ls.length).all (goodL ls (Txt.split (ls.getD 0 "") slS).length))))) := by
    refine ex_when t3 (fun h => ⟨_, ex_ret (ev_is ev_bl (by rw [h]; rfl))⟩) fun h3 => ?_
    rw [h3, cond_false]
    rcases leaf_loop (K := K) hw hl hs (Txt.split (ls.getD 0 "") slS).length ls.length 0 .no .no (by omega) with ⟨p, a, b, lp⟩ | ⟨p, ρ2, lp⟩
    · rw [p]; exact ⟨_, ex_seq (ex_for it lp (by decide)) (ex_ret ev_bl)⟩
    · rw [p]; exact ⟨_, ex_seqR (ex_for it lp (by decide))⟩
  obtain ⟨ρ2, k⟩ := k
  exact ⟨ρ2, ex_seq s2 k⟩
end
end K03
end Z

set_option Elab.async false
set_option linter.all false
set_option maxRecDepth 100000
set_option maxHeartbeats 4000000
/-! Law03e: the law's dimensions are the program's. -/
namespace Z
open PySem PySem.Spec PyProof.Rows L2
open Evl (Ex Ex.refl Ex.trans Ex.new ex_rd ex_l ex_t sq_of st_of fresh_back sz_of sz_lt)
namespace K03
theorem words_split {z : Str} (h : z.length ≠ 0) : wordsS z = Txt.split z slS := by
  unfold wordsS
  rw [if_pos (by rw [bne_iff_ne]; omega)]
theorem split_nil {z : Str} (h : z.length = 0) : ((Txt.split z slS).map wordB).all id = false := by
  have e : TL.tl z = [] := List.eq_nil_of_length_eq_zero (by rw [← TL.len_tl]; exact h)
  have s := split_map z
  rw [e] at s
  have s2 : (Txt.split z slS).map TL.tl = [("" : Str)].map TL.tl := s.trans (by rw [TL.spl_nil]; decide +kernel)
  rw [TL.map_tl_inj s2]
  decide +kernel
structure RFacts (ls : List Str) (d : Nat) : Prop where
  few : 2 ≤ ls.length
  most : ls.length ≤ 8
  d1 : 1 ≤ d
  d3 : d ≤ 3
  lf : ∀ p ∈ ls, (wordsS p).length = d ∧ GoodW (wordsS p)
  asc : ∀ i, 0 < i → i < ls.length → (ls.getD (i - 1) "").cps.toList < (ls.getD i "").cps.toList
theorem mem_D {ls : List Str} {i : Nat} (h : i < ls.length) : ls.getD i "" ∈ ls := by
  rw [List.getD_eq_getElem?_getD, List.getElem?_eq_getElem h]
  exact List.getElem_mem h
theorem D_mem {ls : List Str} {p : Str} (h : p ∈ ls) : ∃ i, i < ls.length ∧ ls.getD i "" = p := by
  obtain ⟨i, hi, e⟩ := List.mem_iff_getElem.mp h
  exact ⟨i, hi, by rw [List.getD_eq_getElem?_getD, List.getElem?_eq_getElem hi, ← e]; rfl⟩
theorem lr_iff (ls : List Str) : leafRowsB ls = true ↔ ∃ d, RFacts ls d := by
  constructor
  · intro h
    unfold leafRowsB at h
    cases q1 : (decide ((ls.length : Int) < 2) || decide ((8 : Int) < (ls.length : Int))) with
    | true => rw [q1, cond_true] at h; cases h
    | false =>
      rw [q1, cond_false] at h
      rw [Bool.or_eq_false_iff, decide_eq_false_iff_not, decide_eq_false_iff_not] at q1
      cases q2 : decide ((3 : Int) < ((Txt.split (ls.getD 0 "") slS).length : Int)) with
      | true => rw [q2, cond_true] at h; cases h
      | false =>
        rw [q2, cond_false] at h
        rw [decide_eq_false_iff_not] at q2
        have gd : ∀ i, i < ls.length → goodL ls (Txt.split (ls.getD 0 "") slS).length i = true := fun i hi => List.all_eq_true.mp h i (by rw [List.mem_range'_1]; omega)
        have lf : ∀ p ∈ ls, p.length ≠ 0 ∧ (Txt.split p slS).length = (Txt.split (ls.getD 0 "") slS).length ∧ ∀ w ∈ Txt.split p slS, wordB w = true := fun p hp => by
          obtain ⟨i, hi, rfl⟩ := D_mem hp
          have g := gd i hi
          unfold goodL at g
          rw [Bool.and_eq_true, Bool.not_eq_true', Bool.or_eq_false_iff, Bool.not_eq_false', Bool.not_eq_false', decide_eq_true_eq] at g
          obtain ⟨⟨g1, g2⟩, _⟩ := g
          refine ⟨fun z => ?_, by omega, fun w hw => List.all_eq_true.mp g2 _ (List.mem_map.mpr ⟨w, hw, rfl⟩)⟩
          rw [split_nil z] at g2
          cases g2
        have l0 := lf _ (mem_D (show 0 < ls.length by omega))
        have n0 : (Txt.split (ls.getD 0 "") slS) ≠ [] := fun z => by
          have := (spl_all (TL.tl (ls.getD 0 "")) []).1
          rw [← split_map, z] at this
          exact this rfl
        refine ⟨(Txt.split (ls.getD 0 "") slS).length, by omega, by omega, List.length_pos_iff.mpr n0, by omega, fun p hp => ?_, fun i h0 hi => ?_⟩
        · obtain ⟨a, b, c⟩ := lf p hp
          rw [words_split a]
          exact ⟨b, c⟩
        · have g := gd i hi
          unfold goodL at g
          rw [Bool.and_eq_true] at g
          have g2 := g.2
          rw [Bool.not_eq_true', decide_eq_true (show (0 : Int) < (i : Int) by omega), Bool.true_and, Bool.not_eq_false', decide_eq_true_eq] at g2
          exact g2
  · rintro ⟨d, f⟩
    have few := f.few
    have most := f.most
    have sp : ∀ i, i < ls.length → Txt.split (ls.getD i "") slS = wordsS (ls.getD i "") ∧ (wordsS (ls.getD i "")).length = d ∧ GoodW (wordsS (ls.getD i "")) := fun i hi => by
      have g := f.lf _ (mem_D hi)
      refine ⟨(words_split fun z => ?_).symm, g⟩
      have e : wordsS (ls.getD i "") = [] := by
        unfold wordsS
        rw [if_neg (by rw [z]; simp)]
      have := g.1
      rw [e] at this
      have := f.d1
      simp at *
      omega
    have e0 := sp 0 (by omega)
    unfold leafRowsB
    rw [e0.1, e0.2.1]
    have d3 := f.d3
    rw [show (decide ((ls.length : Int) < 2) || decide ((8 : Int) < (ls.length : Int))) = false by
      rw [decide_eq_false (by omega), decide_eq_false (by omega)]; rfl, cond_false, decide_eq_false (show ¬ (3 : Int) < (d : Int) by omega), cond_false, List.all_eq_true]
    intro i hi
    rw [List.mem_range'_1] at hi
    have hi' : i < ls.length := by omega
    obtain ⟨s1, s2, s3⟩ := sp i hi'
    unfold goodL
    rw [s1, s2, decide_eq_true rfl, show ((wordsS (ls.getD i "")).map wordB).all id = true from List.all_eq_true.mpr fun b hb => by
      obtain ⟨w, hw, rfl⟩ := List.mem_map.mp hb
      exact s3 w hw]
    by_cases h0 : 0 < i
    · rw [decide_eq_true (f.asc i h0 hi')]; simp
    · rw [decide_eq_false (show ¬ (0 : Int) < (i : Int) by omega)]; rfl
theorem asc_iff {ls : List Str} : ascB ls = true ↔ ∀ i, 0 < i → i < ls.length → (ls.getD (i - 1) "").cps.toList < (ls.getD i "").cps.toList := by
  unfold ascB
  rw [List.all_eq_true]
  have gx : ∀ i (hi : i < ls.length), ls.getD i "" = ls[i] := fun i hi => by rw [List.getD_eq_getElem?_getD, List.getElem?_eq_getElem hi]; rfl
  constructor
  · intro h i h0 hi
    have hz : i - 1 < (ls.zip (ls.drop 1)).length := by rw [List.length_zip, List.length_drop]; omega
    have := h _ (List.mem_map.mpr ⟨_, List.getElem_mem hz, rfl⟩)
    rw [List.getElem_zip] at this
    have t := of_decide_eq_true this
    rw [gx _ (by omega), gx _ hi]
    simp only [List.getElem_drop] at t
    have e : 1 + (i - 1) = i := by omega
    simp only [e] at t
    exact t
  · intro h b hb
    obtain ⟨p, hp, rfl⟩ := List.mem_map.mp hb
    obtain ⟨i, hi, rfl⟩ := List.mem_iff_getElem.mp hp
    rw [List.length_zip, List.length_drop] at hi
    rw [List.getElem_zip]
    show decide _ = true
    refine decide_eq_true ?_
    have t := h (i + 1) (by omega) (by omega)
    rw [Nat.add_sub_cancel, gx i (by omega), gx (i + 1) (by omega)] at t
    simp only [List.getElem_drop]
    have e : 1 + i = i + 1 := by omega
    simp only [e]
    exact t
theorem dim_iff (r : Row) : dimB r = true ↔ wordB r.1 = true ∧ ∃ d, RFacts r.2 d := by
  constructor
  · intro h
    have f := facts_of h
    refine ⟨f.nm, depth r, f.few, f.most, f.d1, f.d3, f.lf, ?_⟩
    rw [← asc_iff]
    unfold dimB at h
    cases q1 : (!wordB r.1 || !(decide ((2 : Int) ≤ (r.2.length : Int)) && decide ((r.2.length : Int) ≤ 8))) with
    | true => rw [q1, cond_true] at h; cases h
    | false =>
      rw [q1, cond_false] at h
      cases q2 : (!(decide ((1 : Int) ≤ (depth r : Int)) && decide ((depth r : Int) ≤ 3))) with
      | true => rw [q2, cond_true] at h; cases h
      | false =>
        rw [q2, cond_false] at h
        cases q3 : (!((r.2.map (leafB (depth r))).all id)) with
        | true => rw [q3, cond_true] at h; cases h
        | false => rw [q3, cond_false] at h; exact h
  · rintro ⟨nm, d, f⟩
    have few := f.few
    have most := f.most
    have d1 := f.d1
    have d3 := f.d3
    have e0 : r.2.headD "" ∈ r.2 := by
      cases q : r.2 with
      | nil => rw [q] at few; simp at few
      | cons x xs => exact List.mem_cons_self
    have ed : depth r = d := (f.lf _ e0).1
    unfold dimB
    rw [ed, nm, decide_eq_true (show (2 : Int) ≤ (r.2.length : Int) by omega), decide_eq_true (show (r.2.length : Int) ≤ 8 by omega), decide_eq_true (show (1 : Int) ≤ (d : Int) by omega), decide_eq_true (show (d : Int) ≤ 3 by omega)]
    rw [show (r.2.map (leafB d)).all id = true from List.all_eq_true.mpr fun b hb => by
      obtain ⟨p, hp, rfl⟩ := List.mem_map.mp hb
      unfold leafB
      obtain ⟨a, c⟩ := f.lf p hp
      show (_ && _) = true
      rw [a, decide_eq_true rfl, Bool.true_and]
      exact List.all_eq_true.mpr fun b hb => by
        obtain ⟨w, hw, rfl⟩ := List.mem_map.mp hb
        exact c w hw]
    exact asc_iff.mpr f.asc
/-- the program's word for a dimension is the law's -/
theorem dim_eq (r : Row) : dimB r = (wordB r.1 && leafRowsB r.2) := by
  rw [Bool.eq_iff_iff, Bool.and_eq_true, lr_iff, dim_iff]
end K03
end Z

set_option Elab.async false
set_option linter.all false
set_option maxRecDepth 100000
set_option maxHeartbeats 4000000
/-! Law03f: whether rows are dimensions, by the law. -/
namespace Z
open PySem PySem.Spec PyProof.Rows L2
open Evl (Ex Ex.refl Ex.trans Ex.new ex_rd ex_l ex_t sq_of st_of fresh_back sz_of sz_lt)
namespace K03
def b__law_are_dimensions_1 (K : PySem.W.Frag) (R__law_is_word : Rel) (R__law_leaf_rows : Rel) : TS :=
  (tSeq (tIfS (tOr (tNot (tB (tCall (SpZ K R__law_is_word) [] E0 (tCons (tOp (rIx K) (tVar 1) (tVar 3)) tNil)))) (tOr (tTest (tOp (rIn K false) (tOp (rIx K) (tVar 1) (tVar 3)) (tSl (rSlL K) (tVar 1) tNoPart (tPart (tVar 3))))) (tNot (tB (tCall (SpZ K R__law_leaf_rows) [] E0 (tCons (tOp (rIx K) (tOp (rIx K) (tVar 0) (tVar 3)) (tC (.int 1))) tNil)))))) (tRet (tC (.bl false))) tNext)
      (tAsg (tOp rMulI (tVar 2) (tCB (rLenX K) (tCons (tOp (rIx K) (tOp (rIx K) (tVar 0) (tVar 3)) (tC (.int 1))) tNil))) (gName 2)))
def e__law_are_dimensions_2 (K : PySem.W.Frag) (R__law_is_word : Rel) (R__law_leaf_rows : Rel) : TE :=
  (tOp (rIx K) (tVar 4) (tC (.int 0)))
def t__law_are_dimensions (K : PySem.W.Frag) (R__law_is_word : Rel) (R__law_leaf_rows : Rel) : TS :=
  (tSeq (tIfS (tOr (tTest (tOp rLtI (tCB (rLenX K) (tCons (tVar 0) tNil)) (tC (.int 1)))) (tTest (tOp rGtI (tCB (rLenX K) (tCons (tVar 0) tNil)) (tC (.int 3))))) (tRet (tC (.bl false))) tNext)
      (tSeq (tAsg (tLc (iTup K (tVar 0)) (gName 4) tYes (e__law_are_dimensions_2 K R__law_is_word R__law_leaf_rows) [4]) (gName 1))
      (tSeq (tAsg (tC (.int 1)) (gName 2))
      (tSeq (tFor (iRng1 (tCons (tCB (rLenX K) (tCons (tVar 0) tNil)) tNil)) (gName 3) (b__law_are_dimensions_1 K R__law_is_word R__law_leaf_rows))
      (tRet (tOp rLeI (tVar 2) (tC (.int 48))))))))

theorem cut_take {xs : List D} {m : Nat} (h : m ≤ xs.length) : cutD xs none (some (m : Int)) = xs.take m := by
  unfold cutD
  have e1 : HT.sIx xs.length 0 none = 0 := rfl
  have e2 : HT.sIx xs.length xs.length (some (m : Int)) = m := by
    rw [HT.sIx_nat]
    omega
  rw [e1, e2, List.drop_zero, Nat.sub_zero]
def nmS (rs : List Row) : List Str := rs.map Prod.fst
def rowAt (rs : List Row) (i : Nat) : Row := rs.getD i ("", [])
def goodR (rs : List Row) (i : Nat) : Bool := !(!wordB (rowAt rs i).1 || (decide ((rowAt rs i).1 ∈ (nmS rs).take i) || !leafRowsB (rowAt rs i).2))
theorem row_at {rs : List Row} {i : Nat} (h : i < rs.length) : rs[i]? = some (rowAt rs i) := by
  unfold rowAt
  rw [List.getD_eq_getElem?_getD, List.getElem?_eq_getElem h]
  rfl
theorem drop_at {rs : List Row} {i : Nat} (h : i < rs.length) : rs.drop i = rowAt rs i :: rs.drop (i + 1) := by
  have e := row_at h
  rw [List.getElem?_eq_getElem h] at e
  rw [List.drop_eq_getElem_cons h, Option.some.inj e]
section
variable {K : PySem.W.Frag}
theorem ard_loop {Rw Rl : Rel} (hw : CWd Rw) (hl : CLr Rl) {rs : List Row} (sm : ∀ r ∈ rs, Small r) (h8 : rs.length ≤ 8) : ∀ (n m c : Nat) (c3 : Cell), m + n = rs.length → c * 8 ^ n ≤ 8 ^ 10 →
    (((List.range' m n).all (goodR rs) = true ∧ ∃ c3', LoopZ K [] (gName 3) (b__law_are_dimensions_1 K Rw Rl) [3] (rangeD (m : Int) n) [.fr (rowsD rs), .fr (.lst ((nmS rs).map .str)), .fr (.int (c : Int)), c3, .no] (.nx [.fr (rowsD rs), .fr (.lst ((nmS rs).map .str)), .fr (.int ((c * sizeN (rs.drop m) : Nat) : Int)), c3', .no])) ∨
     ((List.range' m n).all (goodR rs) = false ∧ ∃ ρ2, LoopZ K [] (gName 3) (b__law_are_dimensions_1 K Rw Rl) [3] (rangeD (m : Int) n) [.fr (rowsD rs), .fr (.lst ((nmS rs).map .str)), .fr (.int (c : Int)), c3, .no] (.rt ρ2 (.fr (.bl false)))))
  | 0, m, c, c3, h, hc => .inl ⟨rfl, c3, by
    rw [List.drop_eq_nil_of_le (by omega), show c * sizeN [] = c from Nat.mul_one c]
    exact .nil⟩
  | n + 1, m, c, c3, h, hc => by
    have hm : m < rs.length := by omega
    have er := row_at hm
    have mr : rowAt rs m ∈ rs := List.mem_of_getElem? er
    have s := sm _ mr
    rw [rangeD_cons, List.range'_succ, List.all_cons]
    have eN : EvZ K (tOp (rIx K) (tVar 1) (tVar 3)) [.fr (rowsD rs), .fr (.lst ((nmS rs).map .str)), .fr (.int (c : Int)), .fr (.int (m : Int)), .no] [.fr (rowsD rs), .fr (.lst ((nmS rs).map .str)), .fr (.int (c : Int)), .fr (.int (m : Int)), .no] (.str (rowAt rs m).1) :=
      ev_ixL (ds := (nmS rs).map D.str) (ev_var (i := 1) rfl) (ev_var (i := 3) rfl) (at_nat (by
        unfold nmS
        rw [List.getElem?_map, List.getElem?_map, er]
        rfl))
    have eL : EvZ K (tOp (rIx K) (tOp (rIx K) (tVar 0) (tVar 3)) (tC (.int 1))) [.fr (rowsD rs), .fr (.lst ((nmS rs).map .str)), .fr (.int (c : Int)), .fr (.int (m : Int)), .no] [.fr (rowsD rs), .fr (.lst ((nmS rs).map .str)), .fr (.int (c : Int)), .fr (.int (m : Int)), .no] (.tup ((rowAt rs m).2.map .str)) :=
      ev_ixT (ds := [.str (rowAt rs m).1, .tup ((rowAt rs m).2.map .str)]) (ev_ixT (ds := rs.map rowT) (ev_var (i := 0) rfl) (ev_var (i := 3) rfl) (at_nat (by rw [List.getElem?_map, er]; rfl))) ev_int (at_nat (j := 1) rfl)
    have tt : TsZ K (tOr (tNot (tB (tCall (SpZ K Rw) [] E0 (tCons (tOp (rIx K) (tVar 1) (tVar 3)) tNil)))) (tOr (tTest (tOp (rIn K false) (tOp (rIx K) (tVar 1) (tVar 3)) (tSl (rSlL K) (tVar 1) tNoPart (tPart (tVar 3))))) (tNot (tB (tCall (SpZ K Rl) [] E0 (tCons (tOp (rIx K) (tOp (rIx K) (tVar 0) (tVar 3)) (tC (.int 1))) tNil)))))) [.fr (rowsD rs), .fr (.lst ((nmS rs).map .str)), .fr (.int (c : Int)), .fr (.int (m : Int)), .no] [.fr (rowsD rs), .fr (.lst ((nmS rs).map .str)), .fr (.int (c : Int)), .fr (.int (m : Int)), .no]
        (!wordB (rowAt rs m).1 || (decide ((rowAt rs m).1 ∈ (nmS rs).take m) || !leafRowsB (rowAt rs m).2)) :=
      ts_or (ts_not (ts_B (ev_callF (ds := [.str (rowAt rs m).1]) (ag_cons eN ag_nil) (hw _ (by have := s.nm; omega))))) fun _ => ts_or (ts_test (ev_inL (neg := false) eN (EvN.rd (ds := ((nmS rs).take m).map D.str) (by
        have q := en_slZ (K := K) (te := tVar 1) (th := tPart (tVar 3)) (tl := tNoPart) (ρ := [.fr (rowsD rs), .fr (.lst ((nmS rs).map .str)), .fr (.int (c : Int)), .fr (.int (m : Int)), .no]) (ev_var (i := 1) (d := .lst ((nmS rs).map .str)) rfl) poz_none (poz_some (ev_var (i := 3) (d := .int (m : Int)) rfl))
        rw [cut_take (by rw [List.length_map]; unfold nmS; rw [List.length_map]; omega), ← List.map_take] at q
        exact q)))) fun _ => ts_not (ts_B (ev_callF (ds := [.tup ((rowAt rs m).2.map .str)]) (ag_cons eL ag_nil) (hl _ s.few s.lf)))
    cases q : (!wordB (rowAt rs m).1 || (decide ((rowAt rs m).1 ∈ (nmS rs).take m) || !leafRowsB (rowAt rs m).2)) with
    | true => exact .inr ⟨by unfold goodR; rw [q]; rfl, _, .ret tg_name (ex_seqR (ex_ifT (ts_is tt q) (ex_ret ev_bl)))⟩
    | false =>
      have g : goodR rs m = true := by unfold goodR; rw [q]; rfl
      have l8 : (rowAt rs m).2.length ≤ 8 := by
        rw [Bool.or_eq_false_iff, Bool.or_eq_false_iff, Bool.not_eq_false', Bool.not_eq_false'] at q
        obtain ⟨d, f⟩ := (lr_iff _).mp q.2.2
        exact f.most
      have c8 : c ≤ 8 ^ 10 := Nat.le_trans (Nat.le_mul_of_pos_right _ (Nat.pos_of_ne_zero (by simp))) hc
      have lt : ((rowAt rs m).2.map D.str).length = (rowAt rs m).2.length := List.length_map ..
      have e3 : ((c : Int) * (((rowAt rs m).2.map D.str).length : Int)) = ((c * (rowAt rs m).2.length : Nat) : Int) := by rw [lt]; exact (Int.natCast_mul _ _).symm
      have st : ExZ K [] (b__law_are_dimensions_1 K Rw Rl) [.fr (rowsD rs), .fr (.lst ((nmS rs).map .str)), .fr (.int (c : Int)), .fr (.int (m : Int)), .no] (.nx [.fr (rowsD rs), .fr (.lst ((nmS rs).map .str)), .fr (.int ((c * (rowAt rs m).2.length : Nat) : Int)), .fr (.int (m : Int)), .no]) := by
        have z := ex_set (K := K) (S := []) (i := 2) (ev_mul (ev_i1 (ρ := [.fr (rowsD rs), .fr (.lst ((nmS rs).map .str)), .fr (.int (c : Int)), .fr (.int (m : Int)), .no]) (i := 2) (n := (c : Int)) rfl) (ev_lenT (ds := (rowAt rs m).2.map D.str) eL.rd) (.inr ⟨by rw [lt]; omega, by rw [lt]; omega⟩)) (by decide)
        rw [e3] at z
        exact ex_seq (ex_ifF (ts_is tt q) ex_next) z
      have e : c * sizeN (rs.drop m) = c * (rowAt rs m).2.length * sizeN (rs.drop (m + 1)) := by rw [drop_at hm]; exact (Nat.mul_assoc _ _ _).symm
      have hc' : c * (rowAt rs m).2.length * 8 ^ n ≤ 8 ^ 10 := by
        refine Nat.le_trans ?_ hc
        rw [Nat.pow_succ, Nat.mul_comm (8 ^ n) 8, ← Nat.mul_assoc]
        exact Nat.mul_le_mul_right _ (Nat.mul_le_mul_left _ l8)
      rcases ard_loop hw hl sm h8 n (m + 1) (c * (rowAt rs m).2.length) (.fr (.int (m : Int))) (by omega) hc' with ⟨p, a, lp⟩ | ⟨p, ρ2, lp⟩
      · exact .inl ⟨by rw [g, p]; rfl, a, by rw [e]; exact .step tg_name st lp⟩
      · exact .inr ⟨by rw [g, p]; rfl, ρ2, .step tg_name st lp⟩
def dimsL (rs : List Row) : Bool :=
  bif decide ((rs.length : Int) < 1) || decide ((3 : Int) < (rs.length : Int)) then false else
  bif !(List.range' 0 rs.length).all (goodR rs) then false else decide ((sizeN rs : Int) ≤ 48)
def CAd (R : Rel) : Prop := ∀ rs : List Row, (∀ r ∈ rs, Small r) → rs.length ≤ 8 → R ([rowsD rs].map .fr) (.fr (.bl (dimsL rs))) ([rowsD rs].map .fr)
theorem rel_ad {Rw Rl : Rel} (hw : CWd Rw) (hl : CLr Rl) : CAd (RelOf K [] (t__law_are_dimensions K Rw Rl) 5 1) := fun rs sm h8 => by
  have lm : (rs.map rowT).length = rs.length := List.length_map ..
  refine rel_rt (ds := [rowsD rs]) ?_
  unfold dimsL
  have t1 : TsZ K (tOr (tTest (tOp rLtI (tCB (rLenX K) (tCons (tVar 0) tNil)) (tC (.int 1)))) (tTest (tOp rGtI (tCB (rLenX K) (tCons (tVar 0) tNil)) (tC (.int 3))))) [.fr (rowsD rs), .no, .no, .no, .no] [.fr (rowsD rs), .no, .no, .no, .no] (decide ((rs.length : Int) < 1) || decide ((3 : Int) < (rs.length : Int))) :=
    ts_or (ts_is (ts_test (ev_lt (ev_lenT (ds := rs.map rowT) (ev_var (i := 0) rfl).rd) ev_int)) (by rw [lm])) fun _ => ts_is (ts_test (ev_gt (ev_lenT (ds := rs.map rowT) (ev_var (i := 0) rfl).rd) ev_int)) (by rw [lm])
  refine ex_when t1 (fun h => ⟨_, ex_ret (ev_is ev_bl (by rw [h]; rfl))⟩) fun h1 => ?_
  rw [h1, cond_false]
  have cm : CompZ K (gName 4) tYes (e__law_are_dimensions_2 K Rw Rl) [4] [4] (rs.map rowT) [.fr (rowsD rs), .no, .no, .no, .no] (rs.map fun r => D.str r.1) [.fr (rowsD rs), .no, .no, .no, .no] :=
    comp_mapA (K := K) (j := 4) rowT (fun r => D.str r.1) rfl rs fun r hr => ev_ixT (ds := [.str r.1, .tup (r.2.map .str)]) (ev_var (i := 4) rfl) ev_int (at_nat (j := 0) rfl)
  have s1 : ExZ K [] (tAsg (tLc (iTup K (tVar 0)) (gName 4) tYes (e__law_are_dimensions_2 K Rw Rl) [4]) (gName 1)) [.fr (rowsD rs), .no, .no, .no, .no] (.nx [.fr (rowsD rs), .own ((nmS rs).map .str), .no, .no, .no]) := by
    unfold nmS
    rw [List.map_map]
    exact ex_setN (i := 1) (en_lc (it_tup (ds := rs.map rowT) (ev_var (i := 0) rfl)) cm (by decide) (by rw [lm]; omega)) .refl (by decide)
  have s2 : ExZ K [] (tAsg (tC (.int 1)) (gName 2)) [.fr (rowsD rs), .fr (.lst ((nmS rs).map .str)), .no, .no, .no] (.nx [.fr (rowsD rs), .fr (.lst ((nmS rs).map .str)), .fr (.int ((1 : Nat) : Int)), .no, .no]) := ex_set (i := 2) ev_int (by decide)
  have it : ItZ K (iRng1 (tCons (tCB (rLenX K) (tCons (tVar 0) tNil)) tNil)) [.fr (rowsD rs), .fr (.lst ((nmS rs).map .str)), .fr (.int ((1 : Nat) : Int)), .no, .no] [.fr (rowsD rs), .fr (.lst ((nmS rs).map .str)), .fr (.int ((1 : Nat) : Int)), .no, .no] (rangeD 0 rs.length) := by
    have z := it_range1 (K := K) (n := ((rs.map rowT).length : Int)) (ag_cons (ev_lenT (ds := rs.map rowT) (EvZ.rd (ev_var (ρ := [.fr (rowsD rs), .fr (.lst ((nmS rs).map .str)), .fr (.int ((1 : Nat) : Int)), .no, .no]) (i := 0) rfl))) ag_nil) ⟨by omega, by rw [lm]; omega⟩
    rwa [Int.toNat_natCast, lm] at z
  have hp : 1 * 8 ^ rs.length ≤ 8 ^ 10 := by rw [Nat.one_mul]; exact Nat.pow_le_pow_right (by decide) (by omega)
  rcases ard_loop (K := K) hw hl sm h8 rs.length 0 1 .no (by omega) hp with ⟨p, a, lp⟩ | ⟨p, ρ2, lp⟩
  · rw [p]
    rw [List.drop_zero] at lp
    exact ⟨_, ex_seq s1 (ex_freeze (i := 1) rfl (ex_seq s2 (ex_seq (ex_for it lp (by decide)) (ex_ret (ev_is (ev_le (ev_i1 (i := 2) rfl) ev_int) (by rw [Nat.one_mul]; rfl))))))⟩
  · rw [p]
    exact ⟨_, ex_seq s1 (ex_freeze (i := 1) rfl (ex_seq s2 (ex_seqR (ex_for it lp (by decide)))))⟩
end
/-- the law's word for dimensions is the program's -/
theorem dims_eq (rs : List Row) : dimsL rs = dimsB rs := by
  have nd : (nmS rs).Nodup ↔ ∀ i, i < rs.length → (rowAt rs i).1 ∉ (nmS rs).take i := by
    have gl : (nmS rs).length = rs.length := List.length_map ..
    have gx : ∀ i (hi : i < (nmS rs).length), (nmS rs)[i] = (rowAt rs i).1 := fun i hi => by
      have e := row_at (rs := rs) (i := i) (by omega)
      have e2 : (nmS rs)[i]? = some (rowAt rs i).1 := by unfold nmS; rw [List.getElem?_map, e]; rfl
      rw [List.getElem?_eq_getElem hi] at e2
      exact Option.some.inj e2
    unfold List.Nodup
    rw [List.pairwise_iff_getElem]
    constructor
    · intro h i hi hm
      obtain ⟨j, hj, e⟩ := List.mem_iff_getElem.mp hm
      rw [List.length_take] at hj
      rw [List.getElem_take] at e
      exact h j i (by omega) (by omega) (by omega) (by rw [e, gx i (by omega)])
    · intro h i j hi hj hij e
      refine h j (by omega) ?_
      rw [← gx j hj, ← e]
      exact List.mem_iff_getElem.mpr ⟨i, by rw [List.length_take]; omega, by rw [List.getElem_take]⟩
  have mt : (¬ ((met (rs.map Prod.fst)).length : Int) < (rs.length : Int)) ↔ (nmS rs).Nodup := by
    constructor
    · intro h
      have := (met_len (rs.map Prod.fst) [] List.nodup_nil).2 (by
        have e : (met (rs.map Prod.fst)).length = ((rs.map Prod.fst).foldl addS []).length := rfl
        rw [List.length_map, List.length_nil, ← e]
        omega)
      rwa [List.nil_append] at this
    · intro h
      rw [show met (rs.map Prod.fst) = rs.map Prod.fst from met_nodup h, List.length_map]
      omega
  have al : rs.all dimB = true ↔ ∀ i, i < rs.length → wordB (rowAt rs i).1 = true ∧ leafRowsB (rowAt rs i).2 = true := by
    rw [List.all_eq_true]
    constructor
    · intro h i hi
      have := h _ (List.mem_of_getElem? (row_at hi))
      rwa [dim_eq, Bool.and_eq_true] at this
    · intro h r hr
      obtain ⟨i, hi, e⟩ := List.mem_iff_getElem.mp hr
      have e2 := row_at hi
      rw [List.getElem?_eq_getElem hi, e] at e2
      rw [dim_eq, Bool.and_eq_true, Option.some.inj e2]
      exact h i hi
  have ga : (List.range' 0 rs.length).all (goodR rs) = true ↔ (nmS rs).Nodup ∧ rs.all dimB = true := by
    rw [List.all_eq_true, nd, al]
    constructor
    · intro h
      have g : ∀ i, i < rs.length → wordB (rowAt rs i).1 = true ∧ (rowAt rs i).1 ∉ (nmS rs).take i ∧ leafRowsB (rowAt rs i).2 = true := fun i hi => by
        have := h i (by rw [List.mem_range'_1]; omega)
        unfold goodR at this
        rwa [Bool.not_eq_true', Bool.or_eq_false_iff, Bool.or_eq_false_iff, Bool.not_eq_false', Bool.not_eq_false', decide_eq_false_iff_not] at this
      exact ⟨fun i hi => (g i hi).2.1, fun i hi => ⟨(g i hi).1, (g i hi).2.2⟩⟩
    · rintro ⟨h1, h2⟩ i hi
      rw [List.mem_range'_1] at hi
      unfold goodR
      rw [Bool.not_eq_true', Bool.or_eq_false_iff, Bool.or_eq_false_iff, Bool.not_eq_false', Bool.not_eq_false', decide_eq_false_iff_not]
      exact ⟨(h2 i (by omega)).1, h1 i (by omega), (h2 i (by omega)).2⟩
  have sz : decide ((sizeN rs : Int) ≤ 48) = !decide ((48 : Int) < (sizeN rs : Int)) := by
    by_cases h : (sizeN rs : Int) ≤ 48
    · rw [decide_eq_true h, decide_eq_false (show ¬ (48 : Int) < (sizeN rs : Int) by omega)]; rfl
    · rw [decide_eq_false h, decide_eq_true (show (48 : Int) < (sizeN rs : Int) by omega)]; rfl
  unfold dimsL dimsB
  rw [sz]
  by_cases hl : (rs.length : Int) < 1 ∨ (3 : Int) < (rs.length : Int)
  · have a1 : (decide ((rs.length : Int) < 1) || decide ((3 : Int) < (rs.length : Int))) = true := by rw [Bool.or_eq_true, decide_eq_true_eq, decide_eq_true_eq]; exact hl
    have a2 : (!(decide ((1 : Int) ≤ (rs.length : Int)) && decide ((rs.length : Int) ≤ 3))) = true := by
      rw [Bool.not_eq_true', Bool.and_eq_false_iff, decide_eq_false_iff_not, decide_eq_false_iff_not]
      rcases hl with h | h
      · exact .inl (by omega)
      · exact .inr (by omega)
    rw [a1, a2]
    rfl
  · have a1 : (decide ((rs.length : Int) < 1) || decide ((3 : Int) < (rs.length : Int))) = false := by
      rw [Bool.or_eq_false_iff, decide_eq_false_iff_not, decide_eq_false_iff_not]
      exact ⟨fun z => hl (.inl z), fun z => hl (.inr z)⟩
    have a2 : (!(decide ((1 : Int) ≤ (rs.length : Int)) && decide ((rs.length : Int) ≤ 3))) = false := by
      rw [Bool.not_eq_false', Bool.and_eq_true, decide_eq_true_eq, decide_eq_true_eq]
      omega
    rw [a1, a2, cond_false, cond_false]
    by_cases n : (nmS rs).Nodup
    · rw [decide_eq_false (mt.mpr n), cond_false]
      cases q : rs.all dimB with
      | true => rw [ga.mpr ⟨n, q⟩]
      | false =>
        rw [show (List.range' 0 rs.length).all (goodR rs) = false from Bool.eq_false_iff.mpr fun z => by
          have := (ga.mp z).2
          rw [q] at this
          cases this]
    · rw [decide_eq_true (Decidable.byContradiction fun z => n (mt.mp z)), cond_true, show (List.range' 0 rs.length).all (goodR rs) = false from Bool.eq_false_iff.mpr fun z => n (ga.mp z).1]
      rfl
end K03
end Z

set_option Elab.async false
set_option linter.all false
set_option maxRecDepth 100000
set_option maxHeartbeats 4000000
/-! Law03g: the law's dimensions in a suite; isinstance of a built-in type there. -/
namespace Z
open PySem PySem.Spec PyProof.Rows L2
open Evl (Ex Ex.refl Ex.trans Ex.new ex_rd ex_l ex_t sq_of st_of fresh_back sz_of sz_lt)
namespace K03
def he__law_is_word_1 (K : PySem.W.Frag) : TE :=
  (tOp rInSg (tVar 1) (tC (.str "abcdefghijklmnopqrstuvwxyz")))
def th__law_is_word (K : PySem.W.Frag) : TS :=
  (tSeq (tIfS (tOr (tTest (tOp rLtI (tCB (rLenX K) (tCons (tVar 0) tNil)) (tC (.int 1)))) (tOr (tTest (tOp rGtI (tCB (rLenX K) (tCons (tVar 0) tNil)) (tC (.int 8)))) (tTest (tOp (rIn K false) (tVar 0) (tTup (tCons (tC (.str "sum")) (tCons (tC (.str "where")) (tCons (tC (.str "in")) (tCons (tC (.str "and")) tNil))))))))) (tRet (tC (.bl false))) tNext)
      (tRet (tCB (rAll K) (tCons (tLc (iStr (tVar 0)) (gName 1) tYes (he__law_is_word_1 K) [1]) tNil))))

def he__law_leaf_rows_1 (K : PySem.W.Frag) (Rh__law_is_word : Rel) : TE :=
  (tCallS (SpZ K Rh__law_is_word) (fun _ => E0) (tCons (tVar 4) tNil))
def hb__law_leaf_rows_2 (K : PySem.W.Frag) (Rh__law_is_word : Rel) : TS :=
  (tSeq (tAsg (tM1 rSplit (tOp (rIx K) (tVar 0) (tVar 2)) (tC (.str "/"))) (gName 3))
      (tSeq (tIfS (tOr (tTest (tOp rNe (tCB (rLenX K) (tCons (tVar 3) tNil)) (tVar 1))) (tNot (tB (tCB (rAll K) (tCons (tLc (iList K (tVar 3)) (gName 4) tYes (he__law_leaf_rows_1 K Rh__law_is_word) [4]) tNil))))) (tRet (tC (.bl false))) tNext)
      (tIfS (tAnd (tTest (tOp rGtI (tVar 2) (tC (.int 0)))) (tTest (tOp rLeS (tOp (rIx K) (tVar 0) (tVar 2)) (tOp (rIx K) (tVar 0) (tOp rSubI (tVar 2) (tC (.int 1))))))) (tRet (tC (.bl false))) tNext)))
def th__law_leaf_rows (K : PySem.W.Frag) (Rh__law_is_word : Rel) : TS :=
  (tSeq (tIfS (tOr (tTest (tOp rLtI (tCB (rLenX K) (tCons (tVar 0) tNil)) (tC (.int 2)))) (tTest (tOp rGtI (tCB (rLenX K) (tCons (tVar 0) tNil)) (tC (.int 8))))) (tRet (tC (.bl false))) tNext)
      (tSeq (tAsg (tCB (rLenX K) (tCons (tM1 rSplit (tOp (rIx K) (tVar 0) (tC (.int 0))) (tC (.str "/"))) tNil)) (gName 1))
      (tSeq (tIfS (tTest (tOp rGtI (tVar 1) (tC (.int 3)))) (tRet (tC (.bl false))) tNext)
      (tSeq (tFor (iRng1 (tCons (tCB (rLenX K) (tCons (tVar 0) tNil)) tNil)) (gName 2) (hb__law_leaf_rows_2 K Rh__law_is_word))
      (tRet (tC (.bl true)))))))

def hb__law_are_dimensions_1 (K : PySem.W.Frag) (Rh__law_is_word : Rel) (Rh__law_leaf_rows : Rel) : TS :=
  (tSeq (tIfS (tOr (tNot (tB (tCallS (SpZ K Rh__law_is_word) (fun _ => E0) (tCons (tOp (rIx K) (tVar 1) (tVar 3)) tNil)))) (tOr (tTest (tOp (rIn K false) (tOp (rIx K) (tVar 1) (tVar 3)) (tSl (rSlL K) (tVar 1) tNoPart (tPart (tVar 3))))) (tNot (tB (tCallS (SpZ K Rh__law_leaf_rows) (fun _ => E0) (tCons (tOp (rIx K) (tOp (rIx K) (tVar 0) (tVar 3)) (tC (.int 1))) tNil)))))) (tRet (tC (.bl false))) tNext)
      (tAsg (tOp rMulI (tVar 2) (tCB (rLenX K) (tCons (tOp (rIx K) (tOp (rIx K) (tVar 0) (tVar 3)) (tC (.int 1))) tNil))) (gName 2)))
def he__law_are_dimensions_2 (K : PySem.W.Frag) (Rh__law_is_word : Rel) (Rh__law_leaf_rows : Rel) : TE :=
  (tOp (rIx K) (tVar 4) (tC (.int 0)))
def th__law_are_dimensions (K : PySem.W.Frag) (Rh__law_is_word : Rel) (Rh__law_leaf_rows : Rel) : TS :=
  (tSeq (tIfS (tOr (tTest (tOp rLtI (tCB (rLenX K) (tCons (tVar 0) tNil)) (tC (.int 1)))) (tTest (tOp rGtI (tCB (rLenX K) (tCons (tVar 0) tNil)) (tC (.int 3))))) (tRet (tC (.bl false))) tNext)
      (tSeq (tAsg (tLc (iTup K (tVar 0)) (gName 4) tYes (he__law_are_dimensions_2 K Rh__law_is_word Rh__law_leaf_rows) [4]) (gName 1))
      (tSeq (tAsg (tC (.int 1)) (gName 2))
      (tSeq (tFor (iRng1 (tCons (tCB (rLenX K) (tCons (tVar 0) tNil)) tNil)) (gName 3) (hb__law_are_dimensions_1 K Rh__law_is_word Rh__law_leaf_rows))
      (tRet (tOp rLeI (tVar 2) (tC (.int 48))))))))

/-- a call in a suite reads as one elsewhere -/
theorem callS_eq {sp : Sp} {t : TA} : tCallS sp (fun _ => E0) t = tCall sp [] E0 t := by
  funext σ H Q
  show t σ H (fun vs H1 => sp vs H1 Q E0) = t σ H (fun vs H1 => sp (vs ++ []) H1 Q E0)
  congr 1
  funext vs H1
  rw [List.append_nil]
section
variable {K : PySem.W.Frag}
theorem hlr_eq {R : Rel} : th__law_leaf_rows K R = t__law_leaf_rows K R := by
  have e : he__law_leaf_rows_1 K R = e__law_leaf_rows_1 K R := callS_eq
  have b : hb__law_leaf_rows_2 K R = b__law_leaf_rows_2 K R := by
    unfold hb__law_leaf_rows_2 b__law_leaf_rows_2
    rw [e]
  unfold th__law_leaf_rows t__law_leaf_rows
  rw [b]
theorem had_eq {R Q : Rel} : th__law_are_dimensions K R Q = t__law_are_dimensions K R Q := by
  have b : hb__law_are_dimensions_1 K R Q = b__law_are_dimensions_1 K R Q := by
    unfold hb__law_are_dimensions_1 b__law_are_dimensions_1
    rw [callS_eq, callS_eq]
  unfold th__law_are_dimensions t__law_are_dimensions
  rw [b]
  rfl
theorem rel_hlr {Rw : Rel} (hw : CWd Rw) : CLr (RelOf K [] (th__law_leaf_rows K Rw) 5 1) := by rw [hlr_eq]; exact rel_lr hw
theorem rel_had {Rw Rl : Rel} (hw : CWd Rw) (hl : CLr Rl) : CAd (RelOf K [] (th__law_are_dimensions K Rw Rl) 5 1) := by rw [had_eq]; exact rel_ad hw hl
/-- isinstance(e, T) in a suite, T a built-in type -/
theorem ee_isT {i : Nat} {a Dc : Addr} {d : Option Addr} {ρ : Rho} {T : String} {b : Bool} (hk : PySem.W.kitOne K (.ref Dc) (.type T) = some b) : EvE K i a d none (tCB (rIsG K Dc a (.ref Dc) d) (tCons (tVar i) (tCons (tC (.ty T)) tNil))) ρ (.bl b) := fun M G H σ s e x Q q =>
  ⟨.ref a, e, rfl, x, .ty T, .type T, b, rfl, fun u r => r, hk, q _ G H .refl s (.bl b)⟩
end
end K03
end Z

set_option Elab.async false
set_option linter.all false
set_option maxRecDepth 100000
set_option maxHeartbeats 2000000
/-! ZCall2: a call with two lists of the frame's own; equalities. -/
namespace Z
open PySem PySem.Spec PyProof.Rows L2
open Evl (Ex Ex.refl Ex.trans Ex.new ex_rd ex_l ex_t sq_of st_of fresh_back sz_of sz_lt)
variable {K : PySem.W.Frag} {ρ ρ' ρ1 ρ2 : Rho} {te ta tb : TE} {d : D}
theorem ev_callMT {R : Rel} {X : XK} {i j : Nat} {b1 b2 t : MO} (hij : i ≠ j) (h0 : ρ[i]? = some (.mu b1)) (h1 : ρ[j]? = some (.mu t)) (hR : R [.mu b1, .mu t] (.fr d) [.mu b2, .mu t]) : EvZ K (tCall (SpZ K R) [] X (tCons (tVar i) (tCons (tVar j) tNil))) ρ (ρ.set i (.mu b2)) d := fun M G H σ S Q q => by
  obtain ⟨p, o1, e1, m1, g1, hp1, k1⟩ := S.mu h0
  obtain ⟨r, o2, e2, m2, g2, hp2, k2⟩ := S.mu h1
  have pr : p ≠ r := fun z => by subst z; exact S.apart hij h0 h1 e1 e2
  refine ⟨.ref p, e1, .ref r, e2, ?_⟩
  show SpZ K R ([V.ref p, V.ref r] ++ []) H Q X
  have s0 : Sim K (fun a => a = p ∨ a = r) G H ([V.ref p, V.ref r].map some) [.mu b1, .mu t] := by
    refine ⟨rfl, S.sub, fun {k d} h => ?_, fun {k d} h => ?_, fun {k k2 x y q} ne a1 a2 a3 a4 => ?_⟩
    · match k, h with
      | 0, h | 1, h => simp at h
      | k + 2, h => simp at h
    · match k, h with
      | 0, h => cases h; exact ⟨p, o1, rfl, .inl rfl, g1, hp1, k1⟩
      | 1, h => cases h; exact ⟨r, o2, rfl, .inr rfl, g2, hp2, k2⟩
      | k + 2, h => simp at h
    · match k, k2, a1, a2 with
      | 0, 0, _, _ => exact ne rfl
      | 1, 1, _, _ => exact ne rfl
      | 0, 1, _, _ => cases a3; cases a4; exact pr rfl
      | 1, 0, _, _ => cases a3; cases a4; exact pr rfl
      | k + 2, _, a1, _ => simp at a1
      | 0, k + 2, _, a2 => simp at a2
      | 1, k + 2, _, a2 => simp at a2
  refine ⟨fun a => a = p ∨ a = r, G, _, .fr d, _, s0, hR, fun v G' H' g s rs => ?_⟩
  have gM : Grow M G H G' H' := g.wk fun a _ z => by
    rcases z with z | z
    · rw [z]; exact m1
    · rw [z]; exact m2
  obtain ⟨p', o1', e1', _, g1', hp1', k1'⟩ := s.mu (i := 0) rfl
  obtain ⟨r', o2', e2', _, g2', hp2', k2'⟩ := s.mu (i := 1) rfl
  cases e1'
  cases e2'
  have at_ : ∀ {k : Nat} {m : MO}, (ρ.set i (.mu b2))[k]? = some (.mu m) → ∃ m', ρ[k]? = some (.mu m') := fun {k m} h => by
    rcases get_set h with ⟨ek, _, _⟩ | ⟨_, h⟩
    · rw [← ek]; exact ⟨_, h0⟩
    · exact ⟨_, h⟩
  refine q v G' H' gM ⟨by rw [List.length_set]; exact S.len, s.sub, fun {k x} h => ?_, fun {k x} h => ?_, fun {k k2 x y w} ne a1 a2 a3 => ?_⟩ rs
  · rcases get_set h with ⟨_, z, _⟩ | ⟨_, h⟩
    · cases z
    · obtain ⟨w, a1, a2⟩ := S.fr h
      exact ⟨w, a1, a2.mono g.g⟩
  · rcases get_set h with ⟨ek, z, _⟩ | ⟨ek, h⟩
    · subst ek
      cases z
      exact ⟨p, o1', e1, m1, g1', hp1', k1'⟩
    · by_cases ej : k = j
      · subst ej
        rw [h1] at h
        cases h
        exact ⟨r, o2', e2, m2, g2', hp2', k2'⟩
      · obtain ⟨w, ow, b1, b2, b3, b4, b5⟩ := S.mu h
        have n1 : w ≠ p := fun z => by subst z; exact S.apart ek h0 h e1 b1
        have n2 : w ≠ r := fun z => by subst z; exact S.apart (fun z => ej z.symm) h1 h e2 b1
        have nn : ¬ (w = p ∨ w = r) := fun z => z.elim n1 n2
        exact ⟨w, ow, b1, b2, g.n w nn (by rw [b4]; simp) b3, g.k w _ nn b4, b5.mono g.g⟩
  · obtain ⟨x', a1⟩ := at_ a1
    obtain ⟨y', a2⟩ := at_ a2
    exact S.apart ne a1 a2 a3
theorem fin_mu2 {S : List Nat} {ρ' : Rho} {d : D} {b b' t : MO} (h0 : 0 ∈ S) (h1 : 1 ∈ S) (e0 : ρ'[0]? = some (.mu b')) (e1 : ρ'[1]? = some (.mu t)) : FinZ S [.mu b, .mu t] [.mu b', .mu t] ρ' (.fr d) := by
  refine ⟨rfl, fun i es h => ?_, fun i d h => ?_, fun _ z => (by cases z)⟩
  · match i, h with
    | 0, h => cases h; exact ⟨h0, e0, _, rfl⟩
    | 1, h => cases h; exact ⟨h1, e1, _, rfl⟩
    | i + 2, h => simp at h
  · match i, h with
    | 0, h | 1, h => cases h
    | i + 2, h => simp at h
/-! ### equalities -/
theorem ev_neB {i j : Bool} (ha : EvZ K ta ρ ρ1 (.bl i)) (hb : EvZ K tb ρ1 ρ2 (.bl j)) : EvZ K (tOp rNe ta tb) ρ ρ2 (.bl (!decide (i = j))) :=
  ev_op ha hb.rd fun u v G H Q _ du dv q => by
    rw [du.bl_inv, dv.bl_inv]
    exact ⟨rfl, q _ (by rw [show decide (V.bl i = V.bl j) = decide (i = j) by simp]; exact .bl _)⟩
/-- xs + ys, two new lists -/
theorem en_cat {ds es : List D} (h : EvN K ta ρ ρ1 ds) (ho : OwnIn ρ1 ρ) (k : EvN K tb ρ1 ρ2 es) (hl : ds.length + es.length ≤ 90000) : EvN K (tOp rCat ta tb) ρ ρ2 (ds ++ es) := fun M G H σ S Q q =>
  h M G H σ S _ fun p vs G1 H1 g1 s1 hp gp hp1 dz => by
    have nw := EvN.noOwn (vs := vs) S s1 hp ho
    have s1' : Sim K (fun a => M a ∧ a ≠ p) G1 H1 σ ρ1 := s1.chMo fun r m i e1 e2 => by
      obtain ⟨r', o, e3, m', _⟩ := s1.mu e1
      rw [e2] at e3
      cases e3
      exact ⟨m', fun z => by subst z; exact nw i m e1 e2⟩
    refine k _ G1 H1 σ s1' _ fun r us G2 H2 g2 s2 hr gr hr2 dz2 => ?_
    have hp2 := g2.k p _ (fun z => z.2 rfl) hp1
    refine ⟨p, r, vs, us, rfl, rfl, hp2, hr2, sz_of (by rw [dz.len, dz2.len]; omega), fun l hl => ?_⟩
    have gg := g1.trans (g2.wk fun a _ z => z.1 : Grow M G1 H1 G2 H2)
    exact q l _ G2 _ (gg.trans (.newO hl)) ((s2.chM fun a _ z => z.1).newO hl) (gg.d l hl) (fresh_back s2.sub hl) upd_same ((dz.mono g2.g).app dz2)
end Z

set_option Elab.async false
set_option linter.all false
set_option maxRecDepth 100000
set_option maxHeartbeats 2000000
/-! ZArg: a call with the frame's own object and a new list; slices and sums of lists that the frame alone changes. -/
namespace Z
open PySem PySem.Spec PyProof.Rows L2
open Evl (Ex Ex.refl Ex.trans Ex.new ex_rd ex_l ex_t sq_of st_of fresh_back sz_of sz_lt)
section
variable {K : PySem.W.Frag} {ρ ρ1 ρ2 ρ3 : Rho} {ta tb te : TE} {ds es : List D} {d : D}
/-- xs[lo:hi] of an own list -/
theorem en_slOw {i : Nat} {tl th : TO} {lo hi : Option Int} (h : ρ[i]? = some (.own ds)) (h1 : PoZ K tl ρ ρ lo) (h2 : PoZ K th ρ ρ hi) : EvN K (tSl (rSlL K) (tVar i) tl th) ρ ρ (cutD ds lo hi) := fun M G H σ S Q q => by
  obtain ⟨p, vs, e, mp, gp, hp, dz⟩ := S.own h
  refine ⟨.ref p, e, h1 M G H σ S _ fun G1 H1 g1 s1 => h2 M G1 H1 σ s1 _ fun G2 H2 g2 s2 => ?_⟩
  obtain ⟨p2, vs2, e2, mp2, gp2, hp2, dz2⟩ := s2.own h
  rw [e] at e2
  cases e2
  refine ⟨p, vs2, rfl, sq_of hp2, fun l hl => ?_⟩
  have gg := g1.trans g2
  exact q l _ G2 _ (gg.trans (.newO hl)) (s2.newO hl) (gg.d l hl) (fresh_back s2.sub hl) upd_same (dz_cut dz2)
end
end Z

set_option Elab.async false
set_option linter.all false
set_option maxRecDepth 100000
set_option maxHeartbeats 2000000
/-! SpI: group_numbers, coarser, meet, join. -/
namespace Z
open PySem PySem.Spec PyProof.Rows L2
open Evl (Ex Ex.refl Ex.trans Ex.new ex_rd ex_l ex_t sq_of st_of fresh_back sz_of sz_lt)
section
variable {K : PySem.W.Frag} {C : Addr}
/-! ### coarser, meet, join -/
end
end Z

set_option Elab.async false
set_option linter.all false
set_option maxRecDepth 100000
set_option maxHeartbeats 2000000
/-! LawR: readings of the defs of a law that draw dimensions. -/
namespace Z
open PySem PySem.Spec PyProof.Rows L2
def b__law_word_1 (K : PySem.W.Frag) (R__law_draw : Rel) : TS :=
  (tIfS (tTest (tOp (rIn K true) (tVar 6) (tVar 1))) (tRet (tVar 6)) tNext)
def b__law_word_2 (K : PySem.W.Frag) (R__law_draw : Rel) : TS :=
  (tAsg (tOp rCatS (tVar 4) (tOp (rIx K) (tVar 2) (tCall (SpZ K R__law_draw) [] E0 (tCons (tVar 0) (tCons (tC (.int 26)) tNil))))) (gName 4))
def b__law_word_3 (K : PySem.W.Frag) (R__law_draw : Rel) : TS :=
  (tSeq (tAsg (tC (.str "")) (gName 4))
      (tSeq (tFor (iRng1 (tCons (tOp rAddI (tC (.int 1)) (tOp rMulI (tCall (SpZ K R__law_draw) [] E0 (tCons (tVar 0) (tCons (tC (.int 8)) tNil))) (tCall (SpZ K R__law_draw) [] E0 (tCons (tVar 0) (tCons (tC (.int 2)) tNil))))) tNil)) (gName 5) (b__law_word_2 K R__law_draw))
      (tIfS (tAnd (tTest (tOp (rIn K true) (tVar 4) (tVar 1))) (tTest (tOp (rIn K true) (tVar 4) (tTup (tCons (tC (.str "sum")) (tCons (tC (.str "where")) (tCons (tC (.str "in")) (tCons (tC (.str "and")) tNil)))))))) (tRet (tVar 4)) tNext)))
def t__law_word (K : PySem.W.Frag) (R__law_draw : Rel) : TS :=
  (tSeq (tAsg (tC (.str "abcdefghijklmnopqrstuvwxyz")) (gName 2))
      (tSeq (tFor (iRng1 (tCons (tC (.int 3)) tNil)) (gName 3) (b__law_word_3 K R__law_draw))
      (tSeq (tFor (iStr (tVar 2)) (gName 6) (b__law_word_1 K R__law_draw))
      (tRet (tC (.str "zz"))))))

def e__law_leaves_1 (K : PySem.W.Frag) (R__law_draw : Rel) (R__law_word : Rel) : TE :=
  (tOp (rIx K) (tVar 11) (tC (.int 0)))
def b__law_leaves_2 (K : PySem.W.Frag) (R__law_draw : Rel) (R__law_word : Rel) : TS :=
  (tSeq (tAsg (tM1 (rJoin K) (tC (.str "/")) (tOp rCat (tLc (iList K (tSl (rSlL K) (tVar 3) tNoPart (tPart (tUn (rU fun i => .int (-i)) (tC (.int 1)))))) (gName 11) tYes (e__law_leaves_1 K R__law_draw R__law_word) [11]) (tLst (tCons (tVar 10) tNil)))) (gName 9))
      (tIfS (tAnd (tTest (tOp (rIn K true) (tVar 9) (tVar 7))) (tTest (tOp rLtI (tCB (rLenX K) (tCons (tVar 7) tNil)) (tC (.int 2))))) (tDrop (tBM K "list" rAppend (tVar 7) (tCons (tVar 9) tNil))) tNext))
def e__law_leaves_3 (K : PySem.W.Frag) (R__law_draw : Rel) (R__law_word : Rel) : TE :=
  (tOp (rIx K) (tVar 11) (tCall (SpZ K R__law_draw) [] E0 (tCons (tVar 0) (tCons (tCB (rLenX K) (tCons (tVar 11) tNil)) tNil))))
def b__law_leaves_4 (K : PySem.W.Frag) (R__law_draw : Rel) (R__law_word : Rel) : TS :=
  (tSeq (tAsg (tM1 (rJoin K) (tC (.str "/")) (tLc (iList K (tVar 3)) (gName 11) tYes (e__law_leaves_3 K R__law_draw R__law_word) [11])) (gName 9))
      (tIfS (tAnd (tTest (tOp (rIn K true) (tVar 9) (tVar 7))) (tTest (tOp rLtI (tCB (rLenX K) (tCons (tVar 7) tNil)) (tVar 2)))) (tDrop (tBM K "list" rAppend (tVar 7) (tCons (tVar 9) tNil))) tNext))
def b__law_leaves_5 (K : PySem.W.Frag) (R__law_draw : Rel) (R__law_word : Rel) : TS :=
  (tIfS (tOr (tTest (tOp rEq (tVar 4) (tOp rSubI (tVar 1) (tC (.int 1))))) (tTest (tOp rLtI (tVar 6) (tC (.int 2))))) (tDrop (tBM K "list" rAppend (tVar 5) (tCons (tCall (SpZ K R__law_word) [] E0 (tCons (tVar 0) (tCons (tVar 5) tNil))) tNil))) tNext)
def b__law_leaves_6 (K : PySem.W.Frag) (R__law_draw : Rel) (R__law_word : Rel) : TS :=
  (tSeq (tAsg (tLst tNil) (gName 5))
      (tSeq (tFor (iRng1 (tCons (tVar 2) tNil)) (gName 6) (b__law_leaves_5 K R__law_draw R__law_word))
      (tDrop (tBM K "list" rAppend (tVar 3) (tCons (tVar 5) tNil)))))
def t__law_leaves (K : PySem.W.Frag) (R__law_draw : Rel) (R__law_word : Rel) : TS :=
  (tSeq (tAsg (tLst tNil) (gName 3))
      (tSeq (tFor (iRng1 (tCons (tVar 1) tNil)) (gName 4) (b__law_leaves_6 K R__law_draw R__law_word))
      (tSeq (tAsg (tLst tNil) (gName 7))
      (tSeq (tFor (iRng1 (tCons (tOp rMulI (tC (.int 2)) (tVar 2)) tNil)) (gName 8) (b__law_leaves_4 K R__law_draw R__law_word))
      (tSeq (tFor (iList K (tOp (rIx K) (tVar 3) (tUn (rU fun i => .int (-i)) (tC (.int 1))))) (gName 10) (b__law_leaves_2 K R__law_draw R__law_word))
      (tRet (tCB (rTupOf K) (tCons (tCB (rSortedS K) (tCons (tVar 7) tNil)) tNil))))))))

def b__law_plain_leaves_1 (K : PySem.W.Frag) : TS :=
  (tIfS (tTest (tOp rLtI (tOp rMulI (tC (.int 2)) (tVar 6)) (tVar 1))) (tDrop (tBM K "list" rAppend (tVar 5) (tCons (tOp rCatS (tOp (rIx K) (tVar 3) (tOp rSubI (tVar 0) (tC (.int 1)))) (tOp (rIx K) (tVar 2) (tVar 6))) tNil))) (tDrop (tBM K "list" rAppend (tVar 5) (tCons (tOp rCatS (tOp (rIx K) (tVar 4) (tOp rSubI (tVar 0) (tC (.int 1)))) (tOp (rIx K) (tVar 2) (tVar 6))) tNil))))
def t__law_plain_leaves (K : PySem.W.Frag) : TS :=
  (tSeq (tAsg (tC (.str "abcdefgh")) (gName 2))
      (tSeq (tAsg (tTup (tCons (tC (.str "")) (tCons (tC (.str "m/")) (tCons (tC (.str "m/p/")) tNil)))) (gName 3))
      (tSeq (tAsg (tTup (tCons (tC (.str "")) (tCons (tC (.str "n/")) (tCons (tC (.str "n/q/")) tNil)))) (gName 4))
      (tSeq (tAsg (tLst tNil) (gName 5))
      (tSeq (tFor (iRng1 (tCons (tVar 1) tNil)) (gName 6) (b__law_plain_leaves_1 K))
      (tRet (tCB (rTupOf K) (tCons (tVar 5) tNil))))))))

def b__law_wide_1 (K : PySem.W.Frag) (R__law_box : Rel) (R__law_draw : Rel) (R__law_leaves : Rel) (R__law_plain_leaves : Rel) (R__law_word : Rel) : TS :=
  (tSeq (tAsg (tCall (SpZ K R__law_box) [] E0 (tCons (tVar 0) (tCons (tOp rAddI (tOp rAddI (tVar 1) (tC (.int 1))) (tVar 6)) tNil))) (gName 7))
      (tIfS (tTest (tOp rGeI (tVar 2) (tC (.int 2)))) (tSeq (tAsg (tOp rAddI (tC (.int 1)) (tCall (SpZ K R__law_draw) [] E0 (tCons (tVar 7) (tCons (tC (.int 3)) tNil)))) (gName 8))
      (tSeq (tAsg (tCB rMin2 (tCons (tOp rAddI (tC (.int 2)) (tCall (SpZ K R__law_draw) [] E0 (tCons (tVar 7) (tCons (tC (.int 7)) tNil)))) (tCons (tVar 2) tNil))) (gName 9))
      (tSeq (tAsg (tOp rEq (tCall (SpZ K R__law_draw) [] E0 (tCons (tVar 7) (tCons (tC (.int 3)) tNil))) (tC (.int 0))) (gName 10))
      (tSeq (tAsg (tIf (tTruth K (tVar 10)) (tCall (SpZ K R__law_plain_leaves) [] E0 (tCons (tVar 8) (tCons (tVar 9) tNil))) (tCall (SpZ K R__law_leaves) [] E0 (tCons (tVar 7) (tCons (tVar 8) (tCons (tVar 9) tNil))))) (gName 11))
      (tSeq (tAsg (tOp rDivI (tVar 2) (tCB (rLenX K) (tCons (tVar 11) tNil))) (gName 2))
      (tSeq (tAsg (tCall (SpZ K R__law_word) [] E0 (tCons (tVar 7) (tCons (tVar 5) tNil))) (gName 12))
      (tSeq (tDrop (tBM K "list" rAppend (tVar 5) (tCons (tVar 12) tNil)))
      (tDrop (tBM K "list" rAppend (tVar 4) (tCons (tTup (tCons (tVar 12) (tCons (tVar 11) tNil))) tNil)))))))))) tNext))
def t__law_wide (K : PySem.W.Frag) (R__law_box : Rel) (R__law_draw : Rel) (R__law_leaves : Rel) (R__law_plain_leaves : Rel) (R__law_word : Rel) : TS :=
  (tSeq (tAsg (tCall (SpZ K R__law_box) [] E0 (tCons (tVar 0) (tCons (tVar 1) tNil))) (gName 3))
      (tSeq (tAsg (tLst tNil) (gName 4))
      (tSeq (tAsg (tLst tNil) (gName 5))
      (tSeq (tFor (iRng1 (tCons (tOp rAddI (tC (.int 1)) (tCall (SpZ K R__law_draw) [] E0 (tCons (tVar 3) (tCons (tC (.int 3)) tNil)))) tNil)) (gName 6) (b__law_wide_1 K R__law_box R__law_draw R__law_leaves R__law_plain_leaves R__law_word))
      (tRet (tCB (rTupOf K) (tCons (tVar 4) tNil)))))))

end Z

set_option Elab.async false
set_option linter.all false
set_option maxRecDepth 100000
set_option maxHeartbeats 2000000
/-! LawD: _law_word. -/
namespace Z
open PySem PySem.Spec PyProof.Rows L2
open Evl (Ex Ex.refl Ex.trans Ex.new ex_rd ex_l ex_t sq_of st_of fresh_back sz_of sz_lt)
def Lets (z : Str) : Prop := ∀ c ∈ z.cps.toList, c ∈ letS.cps.toList
theorem lets_snoc {z : Str} {c : Nat} (h : Lets z) (hc : c ∈ letS.cps.toList) : Lets (z ++ ⟨#[c]⟩) := fun x hx => by
  rw [Str.cps_append, Array.toList_append, List.mem_append] at hx
  rcases hx with hx | hx
  · exact h x hx
  · rw [List.mem_singleton.mp hx]; exact hc
theorem word_of {z : Str} (h : Lets z) (h1 : 1 ≤ z.length) (h8 : z.length ≤ 8) (hk : z ∉ keptS) : wordB z = true := by
  unfold wordB lettersB
  rw [decide_eq_false hk, decide_eq_true (show (1 : Int) ≤ (z.length : Int) by omega), decide_eq_true (show (z.length : Int) ≤ 8 by omega)]
  rw [Bool.not_false, Bool.and_self, Bool.and_self, Bool.true_and, List.all_eq_true]
  intro b hb
  obtain ⟨c, hc, rfl⟩ := List.mem_map.mp hb
  exact decide_eq_true (h c hc)
theorem kept_len : ∀ z ∈ keptS, 2 ≤ z.length := by decide +kernel
theorem let_nd : letS.cps.toList.Nodup := by decide +kernel
theorem one_word {c : Nat} (hc : c ∈ letS.cps.toList) : wordB ⟨#[c]⟩ = true :=
  word_of (fun x hx => by rw [List.mem_singleton.mp hx]; exact hc) (by rw [len_one]; exact Nat.le_refl 1) (by rw [len_one]; decide) fun h => by
    have := kept_len _ h
    rw [len_one] at this
    omega
theorem free_sign {ws : List Str} (h : ws.length ≤ 20) : ∃ c ∈ letS.cps.toList, (⟨#[c]⟩ : Str) ∉ ws := Classical.byContradiction fun n => by
  have all : ∀ c ∈ letS.cps.toList, (⟨#[c]⟩ : Str) ∈ ws := fun c hc => Classical.byContradiction fun z => n ⟨c, hc, z⟩
  have nd : (letS.cps.toList.map fun c => (⟨#[c]⟩ : Str)).Nodup := by
    refine List.pairwise_map.mpr (let_nd.imp fun {a b} hab e => hab ?_)
    have e1 : (⟨#[a]⟩ : Str).cps.toList = (⟨#[b]⟩ : Str).cps.toList := by rw [e]
    have e2 : [a] = [b] := e1
    injection e2
  have := List.Nodup.length_le_of_subset nd fun x hx => by
    obtain ⟨c, hc, rfl⟩ := List.mem_map.mp hx
    exact all c hc
  rw [List.length_map, let_len] at this
  omega
section
variable {K : PySem.W.Frag} {Rd : Rel}
def PostWd (ws : List Str) (b' : List D) (w : Str) : Prop := GoodBox b' ∧ wordB w = true ∧ w ∉ ws
/-- a word of _law_word -/
def CWord (R : Rel) : Prop := ∀ (b : List D) (ws : List Str), GoodBox b → ws.length ≤ 20 → ∃ (w : Str) (b' : List D), PostWd ws b' w ∧ R [.own b, .own (ws.map .str)] (.fr (.str w)) [.own b', .own (ws.map .str)]
theorem word_inner (hd : Spec Rd PreDraw PostDraw) {T c3 c6 : Cell} : ∀ (n m : Nat) (w : Str) (b : List D) (c5 : Cell), GoodBox b → Lets w → w.length + n ≤ 100 → m + n ≤ 100 → ∃ (w' : Str) (b' : List D) (c5' : Cell), GoodBox b' ∧ Lets w' ∧ w'.length = w.length + n ∧
    LoopZ K [0, 1] (gName 5) (b__law_word_2 K Rd) [5] (rangeD (m : Int) n) [.own b, T, .fr (.str letS), c3, .fr (.str w), c5, c6] (.nx [.own b', T, .fr (.str letS), c3, .fr (.str w'), c5', c6])
  | 0, m, w, b, c5, hb, hw, _, _ => ⟨w, b, c5, hb, hw, rfl, .nil⟩
  | n + 1, m, w, b, c5, hb, hw, hl, hm => by
    rw [rangeD_cons]
    obtain ⟨v, b1, h0, h1, hb1, he⟩ := ev_draw (K := K) hd (i := 0) (ρ := [.own b, T, .fr (.str letS), c3, .fr (.str w), .fr (.int (m : Int)), c6]) rfl (ev_int (i := 26)) rfl hb (by decide)
    obtain ⟨c, hc, mc⟩ := atI_has (xs := letS.cps.toList) h0 (by rw [let_len]; exact h1)
    obtain ⟨w', b', c5', g1, g2, g3, g4⟩ := word_inner hd (T := T) (c3 := c3) (c6 := c6) n (m + 1) (w ++ ⟨#[c]⟩) b1 (.fr (.int (m : Int))) hb1 (lets_snoc hw mc) (by rw [len_cat, len_one]; omega) (by omega)
    exact ⟨w', b', c5', g1, g2, by rw [g3, len_cat, len_one]; omega, .step tg_name (ex_set (i := 4) (ev_catS (ev_var rfl) (ev_ixS (ev_var rfl) he (by decide) hc) (by rw [len_one]; omega)) (by decide)) g4⟩
theorem lets_nil : Lets "" := fun c h => by
  have : ("" : Str).cps.toList = [] := by decide +kernel
  rw [this] at h
  cases h
theorem word_turns (hd : Spec Rd PreDraw PostDraw) {ws : List Str} {c6 : Cell} : ∀ (n m : Nat) (b : List D) (c3 c4 c5 : Cell), GoodBox b →
    (∃ (b' : List D) (c3' c4' c5' : Cell), GoodBox b' ∧ LoopZ K [0, 1] (gName 3) (b__law_word_3 K Rd) [3] (rangeD (m : Int) n) [.own b, .own (ws.map .str), .fr (.str letS), c3, c4, c5, c6] (.nx [.own b', .own (ws.map .str), .fr (.str letS), c3', c4', c5', c6])) ∨
    (∃ (b' : List D) (w : Str) (ρ2 : Rho), PostWd ws b' w ∧ ρ2[0]? = some (.own b') ∧ ρ2[1]? = some (.own (ws.map .str)) ∧ LoopZ K [0, 1] (gName 3) (b__law_word_3 K Rd) [3] (rangeD (m : Int) n) [.own b, .own (ws.map .str), .fr (.str letS), c3, c4, c5, c6] (.rt ρ2 (.fr (.str w))))
  | 0, m, b, c3, c4, c5, hb => .inl ⟨b, c3, c4, c5, hb, .nil⟩
  | n + 1, m, b, c3, c4, c5, hb => by
    rw [rangeD_cons]
    obtain ⟨v1, b1, h1, h2, hb1, he1⟩ := ev_draw (K := K) hd (i := 0) (ρ := [.own b, .own (ws.map .str), .fr (.str letS), .fr (.int (m : Int)), .fr (.str ""), c5, c6]) rfl (ev_int (i := 8)) rfl hb (by decide)
    obtain ⟨v2, b2, h3, h4, hb2, he2⟩ := ev_draw (K := K) hd (i := 0) (ρ := [.own b1, .own (ws.map .str), .fr (.str letS), .fr (.int (m : Int)), .fr (.str ""), c5, c6]) rfl (ev_int (i := 2)) rfl hb1 (by decide)
    have hv : 0 ≤ v1 * v2 ∧ v1 * v2 ≤ 7 := by
      have : v2 = 0 ∨ v2 = 1 := by omega
      rcases this with rfl | rfl
      · rw [Int.mul_zero]; omega
      · rw [Int.mul_one]; omega
    obtain ⟨w, b3, c5', hb3, lw, el, q⟩ := word_inner (K := K) hd (T := .own (ws.map .str)) (c3 := .fr (.int (m : Int))) (c6 := c6) (1 + v1 * v2).toNat 0 "" b2 c5 hb2 lets_nil (by have : ("" : Str).length = 0 := rfl; omega) (by omega)
    have e0 : ("" : Str).length = 0 := rfl
    rw [e0] at el
    have s1 : ExZ K [0, 1] (tAsg (tC (.str "")) (gName 4)) [.own b, .own (ws.map .str), .fr (.str letS), .fr (.int (m : Int)), c4, c5, c6] (.nx [.own b, .own (ws.map .str), .fr (.str letS), .fr (.int (m : Int)), .fr (.str ""), c5, c6]) := ex_set (i := 4) ev_str (by decide)
    have s2 := ex_for (S := [0, 1]) (it_range1 (ag_cons (ev_add (ev_int (i := 1)) (ev_mul he1 he2 (.inl ⟨by omega, by omega⟩))) ag_nil) ⟨by omega, by omega⟩) q (by decide)
    have ht : TsZ K (tAnd (tTest (tOp (rIn K true) (tVar 4) (tVar 1))) (tTest (tOp (rIn K true) (tVar 4) (tTup (tCons (tC (.str "sum")) (tCons (tC (.str "where")) (tCons (tC (.str "in")) (tCons (tC (.str "and")) tNil)))))))) [.own b3, .own (ws.map .str), .fr (.str letS), .fr (.int (m : Int)), .fr (.str w), c5', c6] [.own b3, .own (ws.map .str), .fr (.str letS), .fr (.int (m : Int)), .fr (.str w), c5', c6] ((!decide (w ∈ ws)) && !decide (w ∈ keptS)) :=
      ts_and (ts_test (ev_inL (neg := true) (ev_var (i := 4) rfl) (rd_own (i := 1) rfl))) fun _ => ts_test (ev_inT (neg := true) (zs := keptS) (ev_var (i := 4) rfl) (ev_tup (ds := keptS.map .str) (ag_cons ev_str (ag_cons ev_str (ag_cons ev_str (ag_cons ev_str ag_nil)))) (by decide)).rd)
    by_cases hk : w ∉ ws ∧ w ∉ keptS
    · refine .inr ⟨b3, w, _, ⟨hb3, word_of lw (by omega) (by omega) hk.2, hk.1⟩, ?_, ?_, .ret tg_name (ex_seq s1 (ex_seq s2 (ex_ifT (ts_is ht (by rw [decide_eq_false hk.1, decide_eq_false hk.2]; rfl)) (ex_ret (ev_var (i := 4) rfl)))))⟩ <;> rfl
    · have hf : ((!decide (w ∈ ws)) && !decide (w ∈ keptS)) = false := by
        by_cases ha : w ∈ ws
        · rw [decide_eq_true ha]; rfl
        · by_cases hc : w ∈ keptS
          · rw [decide_eq_true hc]; simp
          · exact absurd ⟨ha, hc⟩ hk
      rcases word_turns hd (ws := ws) (c6 := c6) n (m + 1) b3 (.fr (.int (m : Int))) (.fr (.str w)) c5' hb3 with ⟨b', c3', c4', c5'', hb', q2⟩ | ⟨b', w', ρ2, p1, p2, p3, q2⟩
      · exact .inl ⟨b', c3', c4', c5'', hb', .step tg_name (ex_seq s1 (ex_seq s2 (ex_ifF (ts_is ht hf) ex_next))) q2⟩
      · exact .inr ⟨b', w', ρ2, p1, p2, p3, .step tg_name (ex_seq s1 (ex_seq s2 (ex_ifF (ts_is ht hf) ex_next))) q2⟩
theorem sign_loop {ws : List Str} {b : List D} {c2 c3 c4 c5 : Cell} : ∀ (cs : List Nat) (c6 : Cell), (∀ c ∈ cs, c ∈ letS.cps.toList) → (∃ c ∈ cs, (⟨#[c]⟩ : Str) ∉ ws) → ∃ (w : Str) (ρ2 : Rho), wordB w = true ∧ w ∉ ws ∧ ρ2[0]? = some (.own b) ∧ ρ2[1]? = some (.own (ws.map .str)) ∧ LoopZ K [0, 1] (gName 6) (b__law_word_1 K Rd) [6] (cs.map fun c => .str ⟨#[c]⟩) [.own b, .own (ws.map .str), c2, c3, c4, c5, c6] (.rt ρ2 (.fr (.str w)))
  | [], _, _, h => by obtain ⟨c, hc, _⟩ := h; cases hc
  | c :: cs, c6, hl, h => by
    have ht : TsZ K (tTest (tOp (rIn K true) (tVar 6) (tVar 1))) [.own b, .own (ws.map .str), c2, c3, c4, c5, .fr (.str ⟨#[c]⟩)] [.own b, .own (ws.map .str), c2, c3, c4, c5, .fr (.str ⟨#[c]⟩)] (!decide ((⟨#[c]⟩ : Str) ∈ ws)) := ts_test (ev_inL (neg := true) (ev_var (i := 6) rfl) (rd_own (i := 1) rfl))
    by_cases hc : (⟨#[c]⟩ : Str) ∈ ws
    · obtain ⟨w, ρ2, h1, h2, h3, h4, q⟩ := sign_loop (c2 := c2) (c3 := c3) (c4 := c4) (c5 := c5) (b := b) cs (.fr (.str ⟨#[c]⟩)) (fun x hx => hl x (List.mem_cons_of_mem _ hx)) (by
        obtain ⟨x, hx, nx⟩ := h
        rcases List.mem_cons.mp hx with e | e
        · rw [e] at nx; exact absurd hc nx
        · exact ⟨x, e, nx⟩)
      exact ⟨w, ρ2, h1, h2, h3, h4, .step tg_name (ex_ifF (ts_is ht (by rw [decide_eq_true hc]; rfl)) ex_next) q⟩
    · refine ⟨⟨#[c]⟩, _, one_word (hl c List.mem_cons_self), hc, ?_, ?_, .ret tg_name (ex_ifT (ts_is ht (by rw [decide_eq_false hc]; rfl)) (ex_ret (ev_var (i := 6) rfl)))⟩ <;> rfl
theorem rel_word (hd : Spec Rd PreDraw PostDraw) : CWord (RelOf K [0, 1] (t__law_word K Rd) 7 2) := fun b ws hb hl => by
  have s0 : ExZ K [0, 1] (tAsg (tC (.str "abcdefghijklmnopqrstuvwxyz")) (gName 2)) [.own b, .own (ws.map .str), .no, .no, .no, .no, .no] (.nx [.own b, .own (ws.map .str), .fr (.str letS), .no, .no, .no, .no]) := ex_set (i := 2) ev_str (by decide)
  have key : ∃ (w : Str) (b' : List D) (ρ2 : Rho), PostWd ws b' w ∧ ρ2[0]? = some (.own b') ∧ ρ2[1]? = some (.own (ws.map .str)) ∧ ExZ K [0, 1] (t__law_word K Rd) [.own b, .own (ws.map .str), .no, .no, .no, .no, .no] (.rt ρ2 (.fr (.str w))) := by
    rcases word_turns (K := K) hd (ws := ws) (c6 := .no) 3 0 b .no .no .no hb with ⟨b', c3', c4', c5', hb', q⟩ | ⟨b', w, ρ2, p1, p2, p3, q⟩
    · obtain ⟨w, ρ2, h1, h2, h3, h4, q2⟩ := sign_loop (K := K) (Rd := Rd) (ws := ws) (b := b') (c2 := .fr (.str letS)) (c3 := c3') (c4 := c4') (c5 := c5') letS.cps.toList .no (fun _ h => h) (free_sign hl)
      exact ⟨w, b', ρ2, ⟨hb', h1, h2⟩, h3, h4, ex_seq s0 (ex_seq (ex_for (it_range1 (n := 3) (ag_cons ev_int ag_nil) ⟨by decide, by decide⟩) q (by decide)) (ex_seqR (ex_for (it_str (ev_var (i := 2) rfl)) q2 (by decide))))⟩
    · exact ⟨w, b', ρ2, p1, p2, p3, ex_seq s0 (ex_seqR (ex_for (it_range1 (n := 3) (ag_cons ev_int ag_nil) ⟨by decide, by decide⟩) q (by decide)))⟩
  obtain ⟨w, b', ρ2, p1, p2, p3, h⟩ := key
  exact ⟨w, b', p1, rfl, ρ2, .inl h, fin_mu2 (by decide) (by decide) p2 p3⟩
end
end Z

set_option Elab.async false
set_option linter.all false
set_option maxRecDepth 100000
set_option maxHeartbeats 2000000
/-! LawE: leaves of a law's dimensions: sorted paths, plain leaves. -/
namespace Z
open PySem PySem.Spec PyProof.Rows L2
open Evl (Ex Ex.refl Ex.trans Ex.new ex_rd ex_l ex_t sq_of st_of fresh_back sz_of sz_lt)
structure GoodL (lv : List (List Str)) (n : Nat) : Prop where
  few : 2 ≤ lv.length
  most : lv.length ≤ 8
  n1 : 1 ≤ n
  n3 : n ≤ 3
  depth : ∀ ws ∈ lv, ws.length = n
  words : ∀ ws ∈ lv, GoodW ws
  asc : (lv.map pathS).Pairwise fun x y => x.cps.toList < y.cps.toList
theorem GoodL.dm {lv : List (List Str)} {n : Nat} (h : GoodL lv n) {x : Str} (hx : wordB x = true) : (Dm.mk x lv).Good n := ⟨hx, h.few, h.most, h.n1, h.n3, h.depth, h.words, h.asc⟩
/-! ### sorted texts -/
theorem str_eq {a b : Str} (h : a.cps.toList = b.cps.toList) : a = b := Str.ext' (Array.toList_inj.mp h)
theorem rising_le : ∀ (l : List Str) (p : Str), risingS p l = true → (∀ x ∈ l, p.cps.toList ≤ x.cps.toList) ∧ l.Pairwise fun a b => a.cps.toList ≤ b.cps.toList
  | [], p, _ => ⟨fun _ h => (by cases h), .nil⟩
  | x :: l, p, h => by
    have h' : (!ltCps x.cps.toList p.cps.toList && risingS x l) = true := h
    rw [Bool.and_eq_true, ltCps_eq] at h'
    have hx : p.cps.toList ≤ x.cps.toList := List.not_lt.mp fun z => by rw [decide_eq_true z] at h'; exact absurd h'.1 (by simp)
    obtain ⟨h1, h2⟩ := rising_le l x h'.2
    exact ⟨fun y hy => by
      rcases List.mem_cons.mp hy with e | e
      · rw [e]; exact hx
      · exact List.le_trans hx (h1 y e), List.pairwise_cons.mpr ⟨h1, h2⟩⟩
theorem sorted_le {l : List Str} (h : sortedS l = true) : l.Pairwise fun a b => a.cps.toList ≤ b.cps.toList := by
  cases l with
  | nil => exact .nil
  | cons x l =>
    obtain ⟨h1, h2⟩ := rising_le l x h
    exact List.pairwise_cons.mpr ⟨h1, h2⟩
def leP (a b : List Str) : Bool := !ltCps (pathS b).cps.toList (pathS a).cps.toList
def sortW (lv : List (List Str)) : List (List Str) := lv.mergeSort leP
theorem leP_iff {a b : List Str} : leP a b = true ↔ (pathS a).cps.toList ≤ (pathS b).cps.toList := by
  unfold leP
  rw [ltCps_eq]
  constructor
  · intro h
    exact List.not_lt.mp fun z => by rw [decide_eq_true z] at h; exact absurd h (by simp)
  · intro h
    rw [decide_eq_false (List.not_lt.mpr h)]
    rfl
theorem sortW_perm (lv : List (List Str)) : (sortW lv).Perm lv := List.mergeSort_perm ..
theorem sortW_le (lv : List (List Str)) : (sortW lv).Pairwise fun a b => (pathS a).cps.toList ≤ (pathS b).cps.toList := by
  refine (List.pairwise_mergeSort (le := leP) (fun a b c h1 h2 => ?_) (fun a b => ?_) lv).imp fun h => leP_iff.mp h
  · exact leP_iff.mpr (List.le_trans (leP_iff.mp h1) (leP_iff.mp h2))
  · rw [Bool.or_eq_true, leP_iff, leP_iff]
    exact List.le_total _ _
theorem sorted_is {lv : List (List Str)} {ys : List Str} (hp : ys.Perm (lv.map pathS)) (hs : sortedS ys = true) : ys = (sortW lv).map pathS := by
  refine List.Perm.eq_of_pairwise (le := fun a b => a.cps.toList ≤ b.cps.toList) (fun a b _ _ h1 h2 => str_eq (List.le_antisymm h1 h2)) (sorted_le hs) ?_ (hp.trans ((sortW_perm lv).map pathS).symm)
  exact List.pairwise_map.mpr (sortW_le lv)
theorem good_sort {lv : List (List Str)} {n : Nat} (few : 2 ≤ lv.length) (most : lv.length ≤ 8) (n1 : 1 ≤ n) (n3 : n ≤ 3) (depth : ∀ ws ∈ lv, ws.length = n) (words : ∀ ws ∈ lv, GoodW ws) (nd : lv.Nodup) : GoodL (sortW lv) n := by
  have pm := sortW_perm lv
  have mem : ∀ ws ∈ sortW lv, ws ∈ lv := fun ws h => pm.mem_iff.mp h
  refine ⟨by rw [pm.length_eq]; exact few, by rw [pm.length_eq]; exact most, n1, n3, fun ws h => depth ws (mem ws h), fun ws h => words ws (mem ws h), List.pairwise_map.mpr ?_⟩
  have nd2 : (sortW lv).Nodup := pm.symm.nodup nd
  refine (List.Pairwise.and (sortW_le lv) nd2).imp_of_mem fun {a b} ha hb h => ?_
  refine Classical.byContradiction fun z => h.2 ?_
  exact path_inj (words a (mem a ha)) (words b (mem b hb)) (str_eq (List.le_antisymm h.1 (List.not_lt.mp z)))
section
variable {K : PySem.W.Frag} {ρ ρ1 : Rho} {te : TE}
/-- tuple(sorted(paths)) -/
theorem ev_sorted {lv : List (List Str)} (h : RdZ K te ρ ρ1 (.lst ((lv.map pathS).map D.str))) (hl : lv.length < 64) : EvZ K (tCB (rTupOf K) (tCons (tCB (rSortedS K) (tCons te tNil)) tNil)) ρ ρ1 (.tup (((sortW lv).map pathS).map D.str)) := fun M G H σ S Q q => by
  refine en_sortedS h (by rw [List.length_map]; exact hl) M G H σ S _ fun p ys G1 H1 hp hs g1 s1 hn gp hp1 dz => ?_
  rw [sorted_is hp hs] at hp1 dz
  exact ⟨p, _, rfl, .inl ⟨sq_of hp1, fun l hl => q _ _ _ (g1.trans (.new hl s1.sub)) (s1.new hl) (.tup upd_same (dz.mono (Ex.new (fresh_back s1.sub hl))))⟩⟩
/-! ### _law_plain_leaves -/
def headW : Nat → List Str
  | 1 => []
  | 2 => ["m"]
  | _ => ["m", "p"]
def othW : Nat → List Str
  | 1 => []
  | 2 => ["n"]
  | _ => ["n", "q"]
def markS (k : Nat) : Str := ⟨#[97 + k]⟩
def plainW (dp many k : Nat) : List Str := (if 2 * k < many then headW dp else othW dp) ++ [markS k]
def plainL (dp many : Nat) : List (List Str) := (List.range many).map (plainW dp many)
theorem plain_fin : ∀ dp ∈ [1, 2, 3], ∀ many ∈ [2, 3, 4, 5, 6, 7, 8], (∀ ws ∈ plainL dp many, ws.length = dp ∧ ∀ w ∈ ws, wordB w = true) ∧ ((plainL dp many).map pathS).Pairwise fun x y => x.cps.toList < y.cps.toList := by decide +kernel
theorem plain_good {dp many : Nat} (h1 : 1 ≤ dp) (h3 : dp ≤ 3) (h2 : 2 ≤ many) (h8 : many ≤ 8) : GoodL (plainL dp many) dp := by
  have a : dp ∈ [1, 2, 3] := by
    have : dp = 1 ∨ dp = 2 ∨ dp = 3 := by omega
    rcases this with rfl | rfl | rfl <;> simp
  have b : many ∈ [2, 3, 4, 5, 6, 7, 8] := by
    have : many = 2 ∨ many = 3 ∨ many = 4 ∨ many = 5 ∨ many = 6 ∨ many = 7 ∨ many = 8 := by omega
    rcases this with rfl | rfl | rfl | rfl | rfl | rfl | rfl <;> simp
  obtain ⟨p, q⟩ := plain_fin dp a many b
  have hl : (plainL dp many).length = many := by unfold plainL; rw [List.length_map, List.length_range]
  exact ⟨by rw [hl]; exact h2, by rw [hl]; exact h8, h1, h3, fun ws h => (p ws h).1, fun ws h => (p ws h).2, q⟩
def hs3 : List Str := ["", "m/", "m/p/"]
def os3 : List Str := ["", "n/", "n/q/"]
def marks8 : Str := "abcdefgh"
theorem plain_str : ∀ dp ∈ [1, 2, 3], ∀ k ∈ [0, 1, 2, 3, 4, 5, 6, 7], ((hs3[dp - 1]?.getD ("" : Str)) ++ markS k = pathS (headW dp ++ [markS k])) ∧ ((os3[dp - 1]?.getD ("" : Str)) ++ markS k = pathS (othW dp ++ [markS k])) ∧ marks8.cps.toList[k]? = some (97 + k) ∧ (hs3[dp - 1]?.getD ("" : Str)).length ≤ 10 ∧ (os3[dp - 1]?.getD ("" : Str)).length ≤ 10 := by decide +kernel
theorem plain_loop {dp many : Nat} (h1 : 1 ≤ dp) (h3 : dp ≤ 3) (h8 : many ≤ 8) : ∀ (n m : Nat) (c6 : Cell), m + n ≤ many → ∃ c6', LoopZ K [] (gName 6) (b__law_plain_leaves_1 K) [6] (rangeD (m : Int) n) [.fr (.int (dp : Int)), .fr (.int (many : Int)), .fr (.str marks8), .fr (.tup (hs3.map .str)), .fr (.tup (os3.map .str)), .own (((List.range m).map (plainW dp many)).map fun ws => .str (pathS ws)), c6]
    (.nx [.fr (.int (dp : Int)), .fr (.int (many : Int)), .fr (.str marks8), .fr (.tup (hs3.map .str)), .fr (.tup (os3.map .str)), .own (((List.range (m + n)).map (plainW dp many)).map fun ws => .str (pathS ws)), c6'])
  | 0, m, c6, _ => ⟨c6, .nil⟩
  | n + 1, m, c6, hm => by
    rw [rangeD_cons]
    obtain ⟨c6', q⟩ := plain_loop h1 h3 h8 (dp := dp) (many := many) n (m + 1) (.fr (.int (m : Int))) (by omega)
    rw [show m + 1 + n = m + (n + 1) by omega] at q
    have er : (((List.range (m + 1)).map (plainW dp many)).map fun ws => D.str (pathS ws)) = (((List.range m).map (plainW dp many)).map fun ws => D.str (pathS ws)) ++ [.str (pathS (plainW dp many m))] := by
      rw [List.range_succ, List.map_append, List.map_append]
      rfl
    rw [er] at q
    have hl : ((((List.range m).map (plainW dp many)).map fun ws => D.str (pathS ws))).length < 100000 := by rw [List.length_map, List.length_map, List.length_range]; omega
    have a : dp ∈ [1, 2, 3] := by
      have : dp = 1 ∨ dp = 2 ∨ dp = 3 := by omega
      rcases this with rfl | rfl | rfl <;> simp
    have b : m ∈ [0, 1, 2, 3, 4, 5, 6, 7] := by
      have : m = 0 ∨ m = 1 ∨ m = 2 ∨ m = 3 ∨ m = 4 ∨ m = 5 ∨ m = 6 ∨ m = 7 := by omega
      rcases this with rfl | rfl | rfl | rfl | rfl | rfl | rfl | rfl <;> simp
    obtain ⟨f1, f2, f3, f4, f5⟩ := plain_str dp a m b
    have dlt : dp - 1 < 3 := by omega
    have e1 : ((dp : Int) - 1) = ((dp - 1 : Nat) : Int) := by omega
    have ht := ts_test (ev_lt (K := K) (ev_mul (ev_int (i := 2)) (ev_i1 (ρ := [.fr (.int (dp : Int)), .fr (.int (many : Int)), .fr (.str marks8), .fr (.tup (hs3.map .str)), .fr (.tup (os3.map .str)), .own (((List.range m).map (plainW dp many)).map fun ws => .str (pathS ws)), .fr (.int (m : Int))]) (i := 6) (n := (m : Int)) rfl) (.inl ⟨by decide, by decide⟩)) (ev_i1 (i := 1) (n := (many : Int)) rfl))
    by_cases hc : 2 * m < many
    · have ew : pathS (plainW dp many m) = (hs3[dp - 1]?.getD ("" : Str)) ++ markS m := by unfold plainW; rw [if_pos hc, f1]
      rw [ew] at q
      refine ⟨c6', .step tg_name (ex_ifT (ts_is ht (decide_eq_true (by omega))) (ex_app (i := 5) (ev_catS (ev_ixT (ds := hs3.map .str) (ev_var (i := 3) rfl) (ev_sub (ev_i1 (i := 0) rfl) ev_int) (at_of e1 ?_)) (ev_ixS (ev_var (i := 2) rfl) (ev_i1 (i := 6) (n := (m : Int)) rfl) (by decide) (atI_nat f3)) ?_) rfl rfl hl)) q⟩
      · rw [List.getElem?_map]
        have : hs3[dp - 1]? = some (hs3[dp - 1]?.getD ("" : Str)) := by rw [List.getElem?_eq_getElem (show dp - 1 < hs3.length from dlt)]; rfl
        rw [this]
        rfl
      · rw [len_one]; omega
    · have ew : pathS (plainW dp many m) = (os3[dp - 1]?.getD ("" : Str)) ++ markS m := by unfold plainW; rw [if_neg hc, f2]
      rw [ew] at q
      refine ⟨c6', .step tg_name (ex_ifF (ts_is ht (decide_eq_false (by omega))) (ex_app (i := 5) (ev_catS (ev_ixT (ds := os3.map .str) (ev_var (i := 4) rfl) (ev_sub (ev_i1 (i := 0) rfl) ev_int) (at_of e1 ?_)) (ev_ixS (ev_var (i := 2) rfl) (ev_i1 (i := 6) (n := (m : Int)) rfl) (by decide) (atI_nat f3)) ?_) rfl rfl hl)) q⟩
      · rw [List.getElem?_map]
        have : os3[dp - 1]? = some (os3[dp - 1]?.getD ("" : Str)) := by rw [List.getElem?_eq_getElem (show dp - 1 < os3.length from dlt)]; rfl
        rw [this]
        rfl
      · rw [len_one]; omega
def CPlain (R : Rel) : Prop := ∀ (dp many : Nat), 1 ≤ dp → dp ≤ 3 → 2 ≤ many → many ≤ 8 → R ([.int (dp : Int), .int (many : Int)].map .fr) (.fr (lvD (plainL dp many))) ([.int (dp : Int), .int (many : Int)].map .fr)
theorem rel_plain : CPlain (RelOf K [] (t__law_plain_leaves K) 7 2) := fun dp many h1 h3 h2 h8 => by
  obtain ⟨c6', q⟩ := plain_loop (K := K) h1 h3 h8 (dp := dp) (many := many) many 0 .no (by omega)
  rw [Nat.zero_add] at q
  exact rel_rt (ds := [.int (dp : Int), .int (many : Int)]) ⟨_, ex_seq (ex_set (i := 2) ev_str (by decide)) (ex_seq (ex_set (i := 3) (ev_tup (ds := hs3.map .str) (ag_cons ev_str (ag_cons ev_str (ag_cons ev_str ag_nil))) (by decide)) (by decide)) (ex_seq (ex_set (i := 4) (ev_tup (ds := os3.map .str) (ag_cons ev_str (ag_cons ev_str (ag_cons ev_str ag_nil))) (by decide)) (by decide)) (ex_seq (ex_setN (i := 5) (en_lst ag_nil (by decide)) .refl (by decide)) (ex_seq (ex_for (it_range1 (n := (many : Int)) (ag_cons (ev_i1 (i := 1) rfl) ag_nil) ⟨by omega, by omega⟩) (by rw [Int.toNat_natCast]; exact q) (by decide)) (ex_ret (ev_tupO (i := 5) rfl))))))⟩
end
end Z

set_option Elab.async false
set_option linter.all false
set_option maxRecDepth 100000
set_option maxHeartbeats 2000000
/-! LawF: _law_leaves. -/
namespace Z
open PySem PySem.Spec PyProof.Rows L2
open Evl (Ex Ex.refl Ex.trans Ex.new ex_rd ex_l ex_t sq_of st_of fresh_back sz_of sz_lt)
structure PoolOk (ws : List Str) : Prop where
  nd : ws.Nodup
  w : ∀ x ∈ ws, wordB x = true
  l : ws.length ≤ 20
structure LvOk (dp : Nat) (lv : List (List Str)) : Prop where
  nd : lv.Nodup
  g : ∀ ws ∈ lv, GoodW ws ∧ ws.length = dp
def poolD (ws : List Str) : D := .lst (ws.map .str)
def psD (lv : List (List Str)) : List D := (lv.map pathS).map .str
theorem psD_len (lv : List (List Str)) : (psD lv).length = lv.length := by unfold psD; rw [List.length_map, List.length_map]
theorem psD_snoc (lv : List (List Str)) (us : List Str) : psD lv ++ [.str (pathS us)] = psD (lv ++ [us]) := by unfold psD; rw [List.map_append, List.map_append]; rfl
theorem path_mem {dp : Nat} {lv : List (List Str)} (h : LvOk dp lv) {us : List Str} (hu : GoodW us) : pathS us ∈ lv.map pathS ↔ us ∈ lv := by
  constructor
  · intro hm
    obtain ⟨ws, hw, e⟩ := List.mem_map.mp hm
    rw [← path_inj (h.g ws hw).1 hu e]
    exact hw
  · exact fun hm => List.mem_map_of_mem hm
theorem LvOk.snoc {dp : Nat} {lv : List (List Str)} (h : LvOk dp lv) {us : List Str} (hu : GoodW us) (hl : us.length = dp) (hn : us ∉ lv) : LvOk dp (lv ++ [us]) := by
  refine ⟨?_, fun ws hw => ?_⟩
  · rw [List.nodup_append]
    refine ⟨h.nd, by simp, fun a ha b hb e => ?_⟩
    rw [List.mem_singleton] at hb
    subst hb
    subst e
    exact hn ha
  · rcases List.mem_append.mp hw with z | z
    · exact h.g ws z
    · rw [List.mem_singleton.mp z]; exact ⟨hu, hl⟩
theorem join_small {us : List Str} (h : GoodW us) (hl : us.length ≤ 100) : (us.map (·.length)).sum + us.length * slS.length ≤ 90000 := by
  have e : slS.length = 1 := by decide +kernel
  rw [e]
  have : (us.map (·.length)).sum ≤ 8 * us.length := by
    clear hl
    induction us with
    | nil => exact Nat.le_refl _
    | cons w us ih =>
      rw [List.map_cons, List.sum_cons, List.length_cons]
      have := ih fun x hx => h x (List.mem_cons_of_mem _ hx)
      have := (word_len (h w List.mem_cons_self)).2
      omega
  omega
section
variable {K : PySem.W.Frag} {Rd Rw : Rel} {ρ ρ1 : Rho} {te : TE}
theorem ev_neg {i : Int} (h : EvZ K te ρ ρ1 (.int i)) : EvZ K (tUn (rU fun i => .int (-i)) te) ρ ρ1 (.int (-i)) := fun M G H σ S Q q =>
  h M G H σ S _ fun v G1 H1 g1 s1 dv => ⟨i, dv.int_inv, q _ G1 H1 g1 s1 (.int _)⟩
/-! ### the pools -/
theorem pool_words (hw : CWord Rw) {dp many lvl : Nat} {c3 c7 c8 c9 c10 c11 : Cell} : ∀ (n m : Nat) (ws : List Str) (b : List D) (c6 : Cell), GoodBox b → PoolOk ws → ws.length ≤ m → min m 2 ≤ ws.length → m + n ≤ 8 → ∃ (ws' : List Str) (b' : List D) (c6' : Cell), GoodBox b' ∧ PoolOk ws' ∧ ws'.length ≤ 8 ∧ min (m + n) 2 ≤ ws'.length ∧
    LoopZ K [0] (gName 6) (b__law_leaves_5 K Rd Rw) [6] (rangeD (m : Int) n) [.own b, .fr (.int (dp : Int)), .fr (.int (many : Int)), c3, .fr (.int (lvl : Int)), .own (ws.map .str), c6, c7, c8, c9, c10, c11] (.nx [.own b', .fr (.int (dp : Int)), .fr (.int (many : Int)), c3, .fr (.int (lvl : Int)), .own (ws'.map .str), c6', c7, c8, c9, c10, c11])
  | 0, m, ws, b, c6, hb, hp, hl, h2, hm => ⟨ws, b, c6, hb, hp, by omega, h2, .nil⟩
  | n + 1, m, ws, b, c6, hb, hp, hl, h2, hm => by
    rw [rangeD_cons]
    have ht : TsZ K (tOr (tTest (tOp rEq (tVar 4) (tOp rSubI (tVar 1) (tC (.int 1))))) (tTest (tOp rLtI (tVar 6) (tC (.int 2))))) [.own b, .fr (.int (dp : Int)), .fr (.int (many : Int)), c3, .fr (.int (lvl : Int)), .own (ws.map .str), .fr (.int (m : Int)), c7, c8, c9, c10, c11] [.own b, .fr (.int (dp : Int)), .fr (.int (many : Int)), c3, .fr (.int (lvl : Int)), .own (ws.map .str), .fr (.int (m : Int)), c7, c8, c9, c10, c11] (decide ((lvl : Int) = (dp : Int) - 1) || decide ((m : Int) < 2)) :=
      ts_or (ts_test (ev_eqI (ev_i1 (i := 4) rfl) (ev_sub (ev_i1 (i := 1) rfl) ev_int))) fun _ => ts_test (ev_lt (ev_i1 (i := 6) rfl) ev_int)
    by_cases hc : (lvl : Int) = (dp : Int) - 1 ∨ (m : Int) < 2
    · obtain ⟨w, b1, ⟨hb1, hw1, hn1⟩, hR⟩ := hw b ws hb hp.l
      have hp1 : PoolOk (ws ++ [w]) := by
        refine ⟨?_, fun x hx => ?_, by rw [List.length_append]; show ws.length + 1 ≤ 20; omega⟩
        · rw [List.nodup_append]
          refine ⟨hp.nd, by simp, fun a ha y hy e => ?_⟩
          rw [List.mem_singleton] at hy
          subst hy
          subst e
          exact hn1 ha
        · rcases List.mem_append.mp hx with z | z
          · exact hp.w x z
          · rw [List.mem_singleton.mp z]; exact hw1
      have hl1 : (ws ++ [w]).length = ws.length + 1 := by rw [List.length_append]; rfl
      obtain ⟨ws', b', c6', g1, g2, g3, g4, q⟩ := pool_words hw (dp := dp) (many := many) (lvl := lvl) (c3 := c3) (c7 := c7) (c8 := c8) (c9 := c9) (c10 := c10) (c11 := c11) n (m + 1) (ws ++ [w]) b1 (.fr (.int (m : Int))) hb1 hp1 (by omega) (by omega) (by omega)
      rw [List.map_append] at q
      refine ⟨ws', b', c6', g1, g2, g3, by rw [show m + (n + 1) = m + 1 + n by omega]; exact g4, .step tg_name (ex_ifT (ts_is ht ?_) (ex_app (i := 5) (ds := ws.map .str) (ev_callMT (i := 0) (j := 5) (by decide) rfl rfl hR) rfl rfl (by rw [List.length_map]; have := hp.l; omega))) q⟩
      rcases hc with z | z
      · rw [decide_eq_true z]; rfl
      · rw [decide_eq_true z, Bool.or_true]
    · obtain ⟨ws', b', c6', g1, g2, g3, g4, q⟩ := pool_words hw (dp := dp) (many := many) (lvl := lvl) (c3 := c3) (c7 := c7) (c8 := c8) (c9 := c9) (c10 := c10) (c11 := c11) n (m + 1) ws b (.fr (.int (m : Int))) hb hp (by omega) (by omega) (by omega)
      refine ⟨ws', b', c6', g1, g2, g3, by rw [show m + (n + 1) = m + 1 + n by omega]; exact g4, .step tg_name (ex_ifF (ts_is ht ?_) ex_next) q⟩
      rw [decide_eq_false fun z => hc (.inl z), decide_eq_false fun z => hc (.inr z)]
      rfl
theorem pool_levels (hw : CWord Rw) {dp many : Nat} (h2 : 2 ≤ many) (h8 : many ≤ 8) {c7 c8 c9 c10 c11 : Cell} : ∀ (n m : Nat) (pp : List (List Str)) (b : List D) (c4 c5 c6 : Cell), GoodBox b → (∀ ws ∈ pp, PoolOk ws ∧ 2 ≤ ws.length) → pp.length = m → m + n ≤ 50 → ∃ (pp' : List (List Str)) (b' : List D) (c4' c5' c6' : Cell), GoodBox b' ∧ (∀ ws ∈ pp', PoolOk ws ∧ 2 ≤ ws.length) ∧ pp'.length = m + n ∧
    LoopZ K [0] (gName 4) (b__law_leaves_6 K Rd Rw) [4] (rangeD (m : Int) n) [.own b, .fr (.int (dp : Int)), .fr (.int (many : Int)), .own (pp.map poolD), c4, c5, c6, c7, c8, c9, c10, c11] (.nx [.own b', .fr (.int (dp : Int)), .fr (.int (many : Int)), .own (pp'.map poolD), c4', c5', c6', c7, c8, c9, c10, c11])
  | 0, m, pp, b, c4, c5, c6, hb, hp, hl, hm => ⟨pp, b, c4, c5, c6, hb, hp, hl, .nil⟩
  | n + 1, m, pp, b, c4, c5, c6, hb, hp, hl, hm => by
    rw [rangeD_cons]
    obtain ⟨ws, b1, c6a, hb1, p1, p2, p3, q1⟩ := pool_words (K := K) (Rd := Rd) hw (dp := dp) (many := many) (lvl := m) (c3 := .own (pp.map poolD)) (c7 := c7) (c8 := c8) (c9 := c9) (c10 := c10) (c11 := c11) many 0 [] b c6 hb ⟨.nil, fun _ h => (by cases h), by decide⟩ (Nat.le_refl _) (by decide) (by omega)
    obtain ⟨pp', b', c4', c5', c6', g1, g2, g3, q⟩ := pool_levels hw h2 h8 (dp := dp) (c7 := c7) (c8 := c8) (c9 := c9) (c10 := c10) (c11 := c11) n (m + 1) (pp ++ [ws]) b1 (.fr (.int (m : Int))) (.fr (poolD ws)) c6a hb1 (fun x hx => by
      rcases List.mem_append.mp hx with z | z
      · exact hp x z
      · rw [List.mem_singleton.mp z]; exact ⟨p1, by omega⟩) (by rw [List.length_append, hl]; rfl) (by omega)
    rw [List.map_append] at q
    have et : ((many : Int)).toNat = many := Int.toNat_natCast many
    rw [← et] at q1
    refine ⟨pp', b', c4', c5', c6', g1, g2, by omega, .step tg_name (ex_seq (ex_setN (i := 5) (en_lst ag_nil (by decide)) .refl (by decide)) (ex_seq (ex_for (it_range1 (n := (many : Int)) (ag_cons (ev_i1 (i := 2) rfl) ag_nil) ⟨by omega, by omega⟩) q1 (by decide)) (ex_freeze (i := 5) (ds := ws.map .str) rfl (ex_app (i := 3) (ds := pp.map poolD) (ev_var (i := 5) rfl) rfl rfl (by rw [List.length_map]; omega))))) q⟩
/-! ### the paths -/
theorem pick_comp (hd : Spec Rd PreDraw PostDraw) {c1 c2 c3 c4 c5 c6 c7 c8 c9 c10 : Cell} : ∀ (pp : List (List Str)) (b : List D), GoodBox b → (∀ ws ∈ pp, PoolOk ws ∧ 2 ≤ ws.length) → ∃ (us : List Str) (b' : List D), GoodBox b' ∧ us.length = pp.length ∧ GoodW us ∧
    CompZ K (gName 11) tYes (e__law_leaves_3 K Rd Rw) [11] [11] (pp.map poolD) [.own b, c1, c2, c3, c4, c5, c6, c7, c8, c9, c10, .no] (us.map .str) [.own b', c1, c2, c3, c4, c5, c6, c7, c8, c9, c10, .no]
  | [], b, hb, _ => ⟨[], b, hb, rfl, fun _ h => (by cases h), .nil⟩
  | ws :: pp, b, hb, hp => by
    obtain ⟨p1, p2⟩ := hp ws List.mem_cons_self
    obtain ⟨v, b1, h0, h1, hb1, he⟩ := ev_draw (K := K) hd (i := 0) (ρ := [.own b, c1, c2, c3, c4, c5, c6, c7, c8, c9, c10, .fr (poolD ws)]) rfl (ev_lenL (ds := ws.map .str) (ev_var (i := 11) rfl).rd) rfl hb (by rw [List.length_map]; omega)
    rw [List.length_map] at h1
    obtain ⟨x, hx, mx⟩ := atI_has (xs := ws) h0 h1
    obtain ⟨us, b', g1, g2, g3, q⟩ := pick_comp hd (c1 := c1) (c2 := c2) (c3 := c3) (c4 := c4) (c5 := c5) (c6 := c6) (c7 := c7) (c8 := c8) (c9 := c9) (c10 := c10) pp b1 hb1 fun y hy => hp y (List.mem_cons_of_mem _ hy)
    have hx' : atI (ws.map D.str) v = some (.str x) := by
      have ev := Int.toNat_of_nonneg h0
      rw [← ev] at hx ⊢
      have lt : v.toNat < ws.length := by omega
      rw [atI_nat (List.getElem?_eq_getElem lt)] at hx
      refine atI_nat ?_
      rw [List.getElem?_map, List.getElem?_eq_getElem lt]
      exact congrArg (Option.map D.str) hx
    exact ⟨x :: us, b', g1, by rw [List.length_cons, List.length_cons, g2], fun y hy => by
      rcases List.mem_cons.mp hy with e | e
      · rw [e]; exact p1.w x mx
      · exact g3 y e, .yes tg_name ts_yes (ev_ixL (ds := ws.map .str) (ev_var (i := 11) rfl) he hx') q⟩
theorem path_turns (hd : Spec Rd PreDraw PostDraw) {dp many : Nat} (h8 : many ≤ 8) {pp : List (List Str)} (hpp : ∀ ws ∈ pp, PoolOk ws ∧ 2 ≤ ws.length) (hl : pp.length = dp) (h3 : dp ≤ 3) {c4 c5 c6 c10 : Cell} : ∀ (n m : Nat) (lv : List (List Str)) (b : List D) (c8 c9 : Cell), GoodBox b → LvOk dp lv → lv.length ≤ many → ∃ (lv' : List (List Str)) (b' : List D) (c8' c9' : Cell), GoodBox b' ∧ LvOk dp lv' ∧ lv'.length ≤ many ∧
    LoopZ K [0] (gName 8) (b__law_leaves_4 K Rd Rw) [8] (rangeD (m : Int) n) [.own b, .fr (.int (dp : Int)), .fr (.int (many : Int)), .fr (.lst (pp.map poolD)), c4, c5, c6, .own (psD lv), c8, c9, c10, .no] (.nx [.own b', .fr (.int (dp : Int)), .fr (.int (many : Int)), .fr (.lst (pp.map poolD)), c4, c5, c6, .own (psD lv'), c8', c9', c10, .no])
  | 0, m, lv, b, c8, c9, hb, hv, hm => ⟨lv, b, c8, c9, hb, hv, hm, .nil⟩
  | n + 1, m, lv, b, c8, c9, hb, hv, hm => by
    rw [rangeD_cons]
    obtain ⟨us, b1, hb1, u1, u2, q1⟩ := pick_comp (K := K) (Rw := Rw) hd (c1 := .fr (.int (dp : Int))) (c2 := .fr (.int (many : Int))) (c3 := .fr (.lst (pp.map poolD))) (c4 := c4) (c5 := c5) (c6 := c6) (c7 := .own (psD lv)) (c8 := .fr (.int (m : Int))) (c9 := c9) (c10 := c10) pp b hb hpp
    have hn : EvN K (tLc (iList K (tVar 3)) (gName 11) tYes (e__law_leaves_3 K Rd Rw) [11]) [.own b, .fr (.int (dp : Int)), .fr (.int (many : Int)), .fr (.lst (pp.map poolD)), c4, c5, c6, .own (psD lv), .fr (.int (m : Int)), c9, c10, .no] [.own b1, .fr (.int (dp : Int)), .fr (.int (many : Int)), .fr (.lst (pp.map poolD)), c4, c5, c6, .own (psD lv), .fr (.int (m : Int)), c9, c10, .no] (us.map .str) :=
      en_lc (A := [11]) (it_list (ev_var (i := 3) rfl)) q1 (by decide) (by rw [List.length_map]; omega)
    have s1 := ex_set (S := [0]) (i := 9) (ev_join (a := slS) ev_str hn.rd (join_small u2 (by omega))) (by decide)
    have ht : TsZ K (tAnd (tTest (tOp (rIn K true) (tVar 9) (tVar 7))) (tTest (tOp rLtI (tCB (rLenX K) (tCons (tVar 7) tNil)) (tVar 2)))) [.own b1, .fr (.int (dp : Int)), .fr (.int (many : Int)), .fr (.lst (pp.map poolD)), c4, c5, c6, .own (psD lv), .fr (.int (m : Int)), .fr (.str (pathS us)), c10, .no] [.own b1, .fr (.int (dp : Int)), .fr (.int (many : Int)), .fr (.lst (pp.map poolD)), c4, c5, c6, .own (psD lv), .fr (.int (m : Int)), .fr (.str (pathS us)), c10, .no] ((!decide (pathS us ∈ lv.map pathS)) && decide (((psD lv).length : Int) < (many : Int))) :=
      ts_and (ts_test (ev_inL (neg := true) (ev_var (i := 9) rfl) (rd_own (i := 7) rfl))) fun _ => ts_test (ev_lt (ev_lenL (rd_own (i := 7) rfl)) (ev_i1 (i := 2) rfl))
    by_cases hc : us ∉ lv ∧ lv.length < many
    · obtain ⟨lv', b', c8', c9', g1, g2, g3, q⟩ := path_turns hd h8 hpp hl h3 (c4 := c4) (c5 := c5) (c6 := c6) (c10 := c10) n (m + 1) (lv ++ [us]) b1 (.fr (.int (m : Int))) (.fr (.str (pathS us))) hb1 (hv.snoc u2 (u1.trans hl) hc.1) (by rw [List.length_append]; show lv.length + 1 ≤ many; omega)
      rw [← psD_snoc] at q
      refine ⟨lv', b', c8', c9', g1, g2, g3, .step tg_name (ex_seq s1 (ex_ifT (ts_is ht ?_) (ex_app (i := 7) (ds := psD lv) (ev_var (i := 9) rfl) rfl rfl (by rw [psD_len]; omega)))) q⟩
      rw [decide_eq_false fun z => hc.1 ((path_mem hv u2).mp z), psD_len, decide_eq_true (show (lv.length : Int) < (many : Int) by omega)]
      rfl
    · obtain ⟨lv', b', c8', c9', g1, g2, g3, q⟩ := path_turns hd h8 hpp hl h3 (c4 := c4) (c5 := c5) (c6 := c6) (c10 := c10) n (m + 1) lv b1 (.fr (.int (m : Int))) (.fr (.str (pathS us))) hb1 hv hm
      refine ⟨lv', b', c8', c9', g1, g2, g3, .step tg_name (ex_seq s1 (ex_ifF (ts_is ht ?_) ex_next)) q⟩
      by_cases z : us ∈ lv
      · rw [decide_eq_true ((path_mem hv u2).mpr z)]; rfl
      · rw [psD_len, decide_eq_false (show ¬ (lv.length : Int) < (many : Int) from fun y => hc ⟨z, by omega⟩), Bool.and_false]
end
end Z

set_option Elab.async false
set_option linter.all false
set_option maxRecDepth 100000
set_option maxHeartbeats 2000000
/-! LawG: _law_leaves to its end; _law_level, _law_a_grouping. -/
namespace Z
open PySem PySem.Spec PyProof.Rows L2
open Evl (Ex Ex.refl Ex.trans Ex.new ex_rd ex_l ex_t sq_of st_of fresh_back sz_of sz_lt)
theorem cut_init {xs : List D} {x : D} : cutD (xs ++ [x]) none (some (-1)) = xs := by
  unfold cutD
  have e0 : HT.sIx (xs ++ [x]).length 0 none = 0 := rfl
  have e1 : HT.sIx (xs ++ [x]).length (xs ++ [x]).length (some (-1)) = xs.length := by
    unfold HT.sIx
    rw [List.length_append]
    show (if (-1 : Int) < 0 then ((-1 : Int) + ((xs.length + 1 : Nat) : Int)).toNat else _) = _
    rw [if_pos (by decide)]
    omega
  rw [e0, e1, List.drop_zero, Nat.sub_zero]
  exact List.take_left
theorem split_last {α : Type} : ∀ (xs : List α), 1 ≤ xs.length → ∃ ys y, xs = ys ++ [y]
  | [x], _ => ⟨[], x, rfl⟩
  | x :: z :: xs, _ => by
    obtain ⟨ys, y, e⟩ := split_last (z :: xs) (by simp)
    exact ⟨x :: ys, y, by rw [e]; rfl⟩
section
variable {K : PySem.W.Frag} {Rd Rw : Rel}
def headsW (hh : List (List Str)) : List Str := hh.map fun ws => ws.headD ""
theorem last_turns {dp : Nat} {hh : List (List Str)} {lp : List Str} (hpp : ∀ ws ∈ hh ++ [lp], PoolOk ws ∧ 2 ≤ ws.length) (hl : hh.length + 1 = dp) (h3 : dp ≤ 3) {c0 c2 c4 c5 c6 c8 : Cell} (n0 : ∀ m, c0 ≠ .mu m ∨ True) {many : Nat} (h2 : 2 ≤ many) : ∀ (rest done : List Str) (lv : List (List Str)) (c9 c10 : Cell), (∀ w ∈ rest, wordB w = true) → LvOk dp lv → lv.length ≤ many → (2 ≤ lv.length ∨ ∀ w ∈ done, headsW hh ++ [w] ∈ lv) → ∃ (lv' : List (List Str)) (c9' c10' : Cell), LvOk dp lv' ∧ lv'.length ≤ many ∧ (2 ≤ lv'.length ∨ ∀ w ∈ done ++ rest, headsW hh ++ [w] ∈ lv') ∧
    LoopZ K [0] (gName 10) (b__law_leaves_2 K Rd Rw) [10] (rest.map .str) [c0, .fr (.int (dp : Int)), c2, .fr (.lst ((hh ++ [lp]).map poolD)), c4, c5, c6, .own (psD lv), c8, c9, c10, .no] (.nx [c0, .fr (.int (dp : Int)), c2, .fr (.lst ((hh ++ [lp]).map poolD)), c4, c5, c6, .own (psD lv'), c8, c9', c10', .no])
  | [], done, lv, c9, c10, _, hv, hm, hd => ⟨lv, c9, c10, hv, hm, by rw [List.append_nil]; exact hd, .nil⟩
  | w :: rest, done, lv, c9, c10, hw, hv, hm, hd => by
    have gh : GoodW (headsW hh) := fun x hx => by
      obtain ⟨ws, hws, rfl⟩ := List.mem_map.mp hx
      obtain ⟨p1, p2⟩ := hpp ws (List.mem_append_left _ hws)
      cases ws with
      | nil => simp at p2
      | cons y ys => exact p1.w y List.mem_cons_self
    have gw : GoodW (headsW hh ++ [w]) := fun x hx => by
      rcases List.mem_append.mp hx with z | z
      · exact gh x z
      · rw [List.mem_singleton.mp z]; exact hw w List.mem_cons_self
    have gl : (headsW hh ++ [w]).length = dp := by
      unfold headsW
      rw [List.length_append, List.length_map]
      exact hl
    have hn1 : EvN K (tLc (iList K (tSl (rSlL K) (tVar 3) tNoPart (tPart (tUn (rU fun i => .int (-i)) (tC (.int 1)))))) (gName 11) tYes (e__law_leaves_1 K Rd Rw) [11]) [c0, .fr (.int (dp : Int)), c2, .fr (.lst ((hh ++ [lp]).map poolD)), c4, c5, c6, .own (psD lv), c8, c9, .fr (.str w), .no] [c0, .fr (.int (dp : Int)), c2, .fr (.lst ((hh ++ [lp]).map poolD)), c4, c5, c6, .own (psD lv), c8, c9, .fr (.str w), .no] ((headsW hh).map .str) := by
      have hsl : EvN K (tSl (rSlL K) (tVar 3) tNoPart (tPart (tUn (rU fun i => .int (-i)) (tC (.int 1))))) [c0, .fr (.int (dp : Int)), c2, .fr (.lst ((hh ++ [lp]).map poolD)), c4, c5, c6, .own (psD lv), c8, c9, .fr (.str w), .no] [c0, .fr (.int (dp : Int)), c2, .fr (.lst ((hh ++ [lp]).map poolD)), c4, c5, c6, .own (psD lv), c8, c9, .fr (.str w), .no] (hh.map poolD) := by
        have q := en_slZ (K := K) (ev_var (ρ := [c0, .fr (.int (dp : Int)), c2, .fr (.lst ((hh ++ [lp]).map poolD)), c4, c5, c6, .own (psD lv), c8, c9, .fr (.str w), .no]) (i := 3) rfl) poz_none (poz_some (ev_neg (ev_int (i := 1))))
        rw [List.map_append] at q
        have e : cutD (hh.map poolD ++ [lp].map poolD) none (some (-1)) = hh.map poolD := cut_init
        rw [e, ← List.map_append] at q
        exact q
      refine en_lc (A := [11]) (it_list (hsl.ev .refl)) ?_ (by decide) (by rw [List.length_map]; omega)
      unfold headsW
      rw [List.map_map]
      refine comp_mapA (K := K) (ρ := [c0, .fr (.int (dp : Int)), c2, .fr (.lst ((hh ++ [lp]).map poolD)), c4, c5, c6, .own (psD lv), c8, c9, .fr (.str w), .no]) (j := 11) poolD _ rfl hh fun ws hws => ?_
      obtain ⟨p1, p2⟩ := hpp ws (List.mem_append_left _ hws)
      cases ws with
      | nil => simp at p2
      | cons y ys => exact ev_ixL (ds := (y :: ys).map .str) (ev_var (i := 11) rfl) ev_int (at_nat (j := 0) rfl)
    have hn2 := en_cat hn1 .refl (en_lst (ag_cons (ev_var (i := 10) rfl) ag_nil) (by show 1 ≤ 100000; decide)) (by unfold headsW; rw [List.length_map, List.length_map]; show hh.length + 1 ≤ 90000; omega)
    have ec : (headsW hh).map D.str ++ [.str w] = (headsW hh ++ [w]).map .str := by rw [List.map_append]; rfl
    rw [ec] at hn2
    have s1 := ex_set (S := [0]) (i := 9) (ev_join (a := slS) ev_str hn2.rd (join_small gw (by omega))) (by decide)
    have ht : TsZ K (tAnd (tTest (tOp (rIn K true) (tVar 9) (tVar 7))) (tTest (tOp rLtI (tCB (rLenX K) (tCons (tVar 7) tNil)) (tC (.int 2))))) [c0, .fr (.int (dp : Int)), c2, .fr (.lst ((hh ++ [lp]).map poolD)), c4, c5, c6, .own (psD lv), c8, .fr (.str (pathS (headsW hh ++ [w]))), .fr (.str w), .no] [c0, .fr (.int (dp : Int)), c2, .fr (.lst ((hh ++ [lp]).map poolD)), c4, c5, c6, .own (psD lv), c8, .fr (.str (pathS (headsW hh ++ [w]))), .fr (.str w), .no] ((!decide (pathS (headsW hh ++ [w]) ∈ lv.map pathS)) && decide (((psD lv).length : Int) < 2)) :=
      ts_and (ts_test (ev_inL (neg := true) (ev_var (i := 9) rfl) (rd_own (i := 7) rfl))) fun _ => ts_test (ev_lt (ev_lenL (rd_own (i := 7) rfl)) ev_int)
    have mono : ∀ lv' : List (List Str), (∀ x ∈ lv, x ∈ lv') → (headsW hh ++ [w] ∈ lv' ∨ 2 ≤ lv'.length) → lv.length ≤ lv'.length → (2 ≤ lv'.length ∨ ∀ x ∈ done ++ [w], headsW hh ++ [x] ∈ lv') := fun lv' hs hw' hle => by
      rcases hw' with z | z
      · rcases hd with y | y
        · exact .inl (by omega)
        · refine .inr fun x hx => ?_
          rcases List.mem_append.mp hx with a | a
          · exact hs _ (y x a)
          · rw [List.mem_singleton.mp a]; exact z
      · exact .inl z
    by_cases hc : headsW hh ++ [w] ∉ lv ∧ lv.length < 2
    · have hl1 : (lv ++ [headsW hh ++ [w]]).length = lv.length + 1 := by rw [List.length_append]; rfl
      obtain ⟨lv', c9', c10', g1, g2, g3, q⟩ := last_turns hpp hl h3 n0 h2 (c2 := c2) (c4 := c4) (c5 := c5) (c6 := c6) (c8 := c8) rest (done ++ [w]) (lv ++ [headsW hh ++ [w]]) (.fr (.str (pathS (headsW hh ++ [w])))) (.fr (.str w)) (fun x hx => hw x (List.mem_cons_of_mem _ hx)) (hv.snoc gw gl hc.1) (by omega) (mono _ (fun x hx => List.mem_append_left _ hx) (.inl (by simp)) (by omega))
      rw [← psD_snoc] at q
      rw [List.append_assoc] at g3
      refine ⟨lv', c9', c10', g1, g2, g3, .step tg_name (ex_seq s1 (ex_ifT (ts_is ht ?_) (ex_app (i := 7) (ds := psD lv) (ev_var (i := 9) rfl) rfl rfl (by rw [psD_len]; omega)))) q⟩
      rw [decide_eq_false fun z => hc.1 ((path_mem hv gw).mp z), psD_len, decide_eq_true (show (lv.length : Int) < 2 by omega)]
      rfl
    · obtain ⟨lv', c9', c10', g1, g2, g3, q⟩ := last_turns hpp hl h3 n0 h2 (c2 := c2) (c4 := c4) (c5 := c5) (c6 := c6) (c8 := c8) rest (done ++ [w]) lv (.fr (.str (pathS (headsW hh ++ [w])))) (.fr (.str w)) (fun x hx => hw x (List.mem_cons_of_mem _ hx)) hv hm (mono lv (fun _ h => h) (by
        by_cases z : headsW hh ++ [w] ∈ lv
        · exact .inl z
        · exact .inr (by
            by_cases y : lv.length < 2
            · exact absurd ⟨z, y⟩ hc
            · omega)) (Nat.le_refl _))
      rw [List.append_assoc] at g3
      refine ⟨lv', c9', c10', g1, g2, g3, .step tg_name (ex_seq s1 (ex_ifF (ts_is ht ?_) ex_next)) q⟩
      by_cases z : headsW hh ++ [w] ∈ lv
      · rw [decide_eq_true ((path_mem hv gw).mpr z)]; rfl
      · rw [psD_len, decide_eq_false (show ¬ (lv.length : Int) < 2 from fun y => hc ⟨z, by omega⟩), Bool.and_false]
def CLeaves (R : Rel) : Prop := ∀ (b : List D) (dp many : Nat), GoodBox b → 1 ≤ dp → dp ≤ 3 → 2 ≤ many → many ≤ 8 → ∃ (lv : List (List Str)) (b' : List D), GoodL lv dp ∧ lv.length ≤ many ∧ GoodBox b' ∧ R (.own b :: [.int (dp : Int), .int (many : Int)].map .fr) (.fr (lvD lv)) (.own b' :: [.int (dp : Int), .int (many : Int)].map .fr)
theorem rel_leaves (hd : Spec Rd PreDraw PostDraw) (hw : CWord Rw) : CLeaves (RelOf K [0] (t__law_leaves K Rd Rw) 12 3) := fun b dp many hb h1 h3 h2 h8 => by
  obtain ⟨pp, b1, c4, c5, c6, hb1, hpp, lpp, q1⟩ := pool_levels (K := K) (Rd := Rd) hw (dp := dp) (many := many) h2 h8 (c7 := .no) (c8 := .no) (c9 := .no) (c10 := .no) (c11 := .no) dp 0 [] b .no .no .no hb (fun _ h => (by cases h)) rfl (by omega)
  rw [Nat.zero_add] at lpp
  obtain ⟨lv1, b2, c8, c9, hb2, v1, l1, q2⟩ := path_turns (K := K) (Rw := Rw) hd (dp := dp) (many := many) h8 hpp lpp h3 (c4 := c4) (c5 := c5) (c6 := c6) (c10 := .no) (2 * many) 0 [] b1 .no .no hb1 ⟨.nil, fun _ h => (by cases h)⟩ (Nat.zero_le _)
  obtain ⟨hh, lp, e⟩ := split_last pp (by omega)
  subst e
  rw [List.length_append] at lpp
  obtain ⟨p1, p2⟩ := hpp lp (by simp)
  obtain ⟨lv, c9', c10', v2, l2, d2, q3⟩ := last_turns (K := K) (Rd := Rd) (Rw := Rw) hpp lpp h3 (c0 := .own b2) (c2 := .fr (.int (many : Int))) (c4 := c4) (c5 := c5) (c6 := c6) (c8 := c8) (fun _ => .inr trivial) h2 lp [] lv1 c9 .no p1.w v1 l1 (.inr fun _ h => (by cases h))
  have two : 2 ≤ lv.length := by
    rcases d2 with z | z
    · exact z
    · have nd : (lp.map fun w => headsW hh ++ [w]).Nodup := List.pairwise_map.mpr (p1.nd.imp fun {x y} hxy e => hxy (by
        have := List.append_cancel_left e
        injection this))
      have := List.Nodup.length_le_of_subset nd fun x hx => by
        obtain ⟨w, hw', rfl⟩ := List.mem_map.mp hx
        exact z w hw'
      rw [List.length_map] at this
      omega
  have good := good_sort two (by omega) h1 h3 (fun ws h => (v2.g ws h).2) (fun ws h => (v2.g ws h).1) v2.nd
  have et1 : ((dp : Int)).toNat = dp := Int.toNat_natCast dp
  have et2 : ((2 : Int) * (many : Int)).toNat = 2 * many := by omega
  rw [← et1] at q1
  rw [← et2] at q2
  have elast : atI ((hh ++ [lp]).map poolD) (-1) = some (poolD lp) := by rw [List.map_append]; exact atI_last _ _
  have e9 : ((sortW lv).map pathS).map D.str = (sortW lv).map fun ws => D.str (pathS ws) := by rw [List.map_map]; rfl
  have key : ExZ K [0] (t__law_leaves K Rd Rw) [.own b, .fr (.int (dp : Int)), .fr (.int (many : Int)), .no, .no, .no, .no, .no, .no, .no, .no, .no] (.rt [.own b2, .fr (.int (dp : Int)), .fr (.int (many : Int)), .fr (.lst ((hh ++ [lp]).map poolD)), c4, c5, c6, .own (psD lv), c8, c9', c10', .no] (.fr (lvD (sortW lv)))) :=
    ex_seq (ex_setN (i := 3) (en_lst ag_nil (by decide)) .refl (by decide)) (ex_seq (ex_for (it_range1 (n := (dp : Int)) (ag_cons (ev_i1 (i := 1) rfl) ag_nil) ⟨by omega, by omega⟩) q1 (by decide)) (ex_freeze (i := 3) (ds := (hh ++ [lp]).map poolD) rfl (ex_seq (ex_setN (i := 7) (en_lst ag_nil (by decide)) .refl (by decide))
      (ex_seq (ex_for (it_range1 (n := (2 : Int) * (many : Int)) (ag_cons (ev_mul ev_int (ev_i1 (i := 2) rfl) (.inl ⟨by decide, by decide⟩)) ag_nil) ⟨by omega, by omega⟩) q2 (by decide))
      (ex_seq (ex_for (it_list (ds := lp.map .str) (ev_ixL (ds := (hh ++ [lp]).map poolD) (ev_var (i := 3) rfl) (ev_neg (ev_int (i := 1))) elast)) q3 (by decide)) (ex_ret (ev_is (ev_sorted (lv := lv) (rd_own (i := 7) rfl) (by omega)) (by rw [e9]))))))))
  refine ⟨sortW lv, b2, good, by rw [(sortW_perm lv).length_eq]; exact l2, hb2, rfl, _, .inl key, fin_box (ds := [.int (dp : Int), .int (many : Int)]) (by decide) rfl⟩
/-! ### _law_level, _law_a_grouping -/
end
end Z

set_option Elab.async false
set_option linter.all false
set_option maxRecDepth 100000
set_option maxHeartbeats 2000000
/-! LawH: _law_a_grouping, _law_wide. -/
namespace Z
open PySem PySem.Spec PyProof.Rows L2
open Evl (Ex Ex.refl Ex.trans Ex.new ex_rd ex_l ex_t sq_of st_of fresh_back sz_of sz_lt)
section
variable {K : PySem.W.Frag} {ρ ρ1 ρ2 : Rho} {te : TE} {d : D} {ds : List D}
end
section
variable {K : PySem.W.Frag} {Rd Rv : Rel}
end
end Z

set_option Elab.async false
set_option linter.all false
set_option maxRecDepth 100000
set_option maxHeartbeats 2000000
/-! LawI: _law_wide. -/
namespace Z
open PySem PySem.Spec PyProof.Rows L2
open Evl (Ex Ex.refl Ex.trans Ex.new ex_rd ex_l ex_t sq_of st_of fresh_back sz_of sz_lt)
theorem cellsN_snoc (d : Dm) : ∀ ds : List Dm, cellsN (ds ++ [d]) = cellsN ds * d.leaves.length
  | [] => by
    show d.leaves.length * 1 = 1 * d.leaves.length
    omega
  | x :: ds => by
    show x.leaves.length * cellsN (ds ++ [d]) = x.leaves.length * cellsN ds * d.leaves.length
    rw [cellsN_snoc d ds, Nat.mul_assoc]
structure WideOk (ds : List Dm) (m c C : Nat) : Prop where
  l : ds.length ≤ m
  names : (ds.map Dm.name).Nodup
  good : ∀ d ∈ ds, ∃ n, d.Good n
  c1 : 1 ≤ c
  cells : cellsN ds * c ≤ C
  first : 1 ≤ ds.length ∨ (m = 0 ∧ 2 ≤ c)
section
variable {K : PySem.W.Frag} {Rb Rd Rl Rp Rw : Rel}
def CWide (R : Rel) : Prop := ∀ (ns : List Int) (f C : Nat), f ≤ 1000 → 2 ≤ C → C ≤ 48 → ∃ ds : List Dm, GoodDs ds ∧ cellsN ds ≤ C ∧ R ([.lst (ns.map .int), .int (f : Int), .int (C : Int)].map .fr) (.fr (dimsD ds)) ([.lst (ns.map .int), .int (f : Int), .int (C : Int)].map .fr)
theorem wide_loop (hb : Spec Rb PreBox PostBox) (hd : Spec Rd PreDraw PostDraw) (hl : CLeaves Rl) (hp : CPlain Rp) (hw : CWord Rw) {ns : List Int} {f C : Nat} (hf : f ≤ 1000) (hC : C ≤ 48) {c3 : Cell} : ∀ (n m : Nat) (ds : List Dm) (c : Nat) (c6 c7 c8 c9 c10 c11 c12 : Cell), m + n ≤ 3 → WideOk ds m c C → (m = 0 → 2 ≤ c) → ∃ (ds' : List Dm) (c' : Nat) (c6' c7' c8' c9' c10' c11' c12' : Cell), WideOk ds' (m + n) c' C ∧
    LoopZ K [] (gName 6) (b__law_wide_1 K Rb Rd Rl Rp Rw) [6] (rangeD (m : Int) n) [.fr (.lst (ns.map .int)), .fr (.int (f : Int)), .fr (.int (c : Int)), c3, .own (ds.map Dm.d), .own ((ds.map Dm.name).map .str), c6, c7, c8, c9, c10, c11, c12]
      (.nx [.fr (.lst (ns.map .int)), .fr (.int (f : Int)), .fr (.int (c' : Int)), c3, .own (ds'.map Dm.d), .own ((ds'.map Dm.name).map .str), c6', c7', c8', c9', c10', c11', c12'])
  | 0, m, ds, c, c6, c7, c8, c9, c10, c11, c12, hm, h, _ => ⟨ds, c, c6, c7, c8, c9, c10, c11, c12, h, .nil⟩
  | n + 1, m, ds, c, c6, c7, c8, c9, c10, c11, c12, hm, h, h0 => by
    rw [rangeD_cons]
    obtain ⟨r, cs', hR, rfl, b, hbx, rfl⟩ := hb _ ⟨ns, f + 1 + m, rfl, by omega⟩
    have ef : ((f : Int) + 1 + (m : Int)) = ((f + 1 + m : Nat) : Int) := by omega
    have s1 : ExZ K [] (tAsg (tCall (SpZ K Rb) [] E0 (tCons (tVar 0) (tCons (tOp rAddI (tOp rAddI (tVar 1) (tC (.int 1))) (tVar 6)) tNil))) (gName 7)) [.fr (.lst (ns.map .int)), .fr (.int (f : Int)), .fr (.int (c : Int)), c3, .own (ds.map Dm.d), .own ((ds.map Dm.name).map .str), .fr (.int (m : Int)), c7, c8, c9, c10, c11, c12] (.nx [.fr (.lst (ns.map .int)), .fr (.int (f : Int)), .fr (.int (c : Int)), c3, .own (ds.map Dm.d), .own ((ds.map Dm.name).map .str), .fr (.int (m : Int)), .own b, c8, c9, c10, c11, c12]) :=
      ex_setN (i := 7) (en_callF (ds := [.lst (ns.map .int), .int ((f + 1 + m : Nat) : Int)]) (ag_cons (ev_var (i := 0) rfl) (ag_cons (ev_is (ev_add (ev_add (ev_i1 (i := 1) rfl) ev_int) (ev_i1 (i := 6) rfl)) (congrArg D.int ef)) ag_nil)) hR) .refl (by decide)
    have ht := ts_test (ev_ge (K := K) (ev_i1 (ρ := [.fr (.lst (ns.map .int)), .fr (.int (f : Int)), .fr (.int (c : Int)), c3, .own (ds.map Dm.d), .own ((ds.map Dm.name).map .str), .fr (.int (m : Int)), .own b, c8, c9, c10, c11, c12]) (i := 2) (n := (c : Int)) rfl) (ev_int (i := 2)))
    by_cases hc : 2 ≤ c
    · -- depth
      obtain ⟨v1, b1, a1, a2, hb1, he1⟩ := ev_draw (K := K) hd (i := 7) (ρ := [.fr (.lst (ns.map .int)), .fr (.int (f : Int)), .fr (.int (c : Int)), c3, .own (ds.map Dm.d), .own ((ds.map Dm.name).map .str), .fr (.int (m : Int)), .own b, c8, c9, c10, c11, c12]) rfl (ev_int (i := 3)) rfl hbx (by decide)
      obtain ⟨d1, rfl⟩ := Int.eq_ofNat_of_zero_le a1
      have e1 : (1 : Int) + (d1 : Int) = ((1 + d1 : Nat) : Int) := by omega
      have s2 := ex_set (S := []) (i := 8) (ev_is (ev_add (ev_int (i := 1)) he1) (congrArg D.int e1)) (by decide)
      -- many
      obtain ⟨v2, b2, a3, a4, hb2, he2⟩ := ev_draw (K := K) hd (i := 7) (ρ := [.fr (.lst (ns.map .int)), .fr (.int (f : Int)), .fr (.int (c : Int)), c3, .own (ds.map Dm.d), .own ((ds.map Dm.name).map .str), .fr (.int (m : Int)), .own b1, .fr (.int ((1 + d1 : Nat) : Int)), c9, c10, c11, c12]) rfl (ev_int (i := 7)) rfl hb1 (by decide)
      obtain ⟨d2, rfl⟩ := Int.eq_ofNat_of_zero_le a3
      have e2 : min ((2 : Int) + (d2 : Int)) (c : Int) = ((min (2 + d2) c : Nat) : Int) := by omega
      have s3 := ex_set (S := []) (i := 9) (ev_is (ev_min2 (ev_add (ev_int (i := 2)) he2) (ev_i1 (i := 2) (n := (c : Int)) rfl)) (congrArg D.int e2)) (by decide)
      -- plain
      obtain ⟨v3, b3, a5, a6, hb3, he3⟩ := ev_draw (K := K) hd (i := 7) (ρ := [.fr (.lst (ns.map .int)), .fr (.int (f : Int)), .fr (.int (c : Int)), c3, .own (ds.map Dm.d), .own ((ds.map Dm.name).map .str), .fr (.int (m : Int)), .own b2, .fr (.int ((1 + d1 : Nat) : Int)), .fr (.int ((min (2 + d2) c : Nat) : Int)), c10, c11, c12]) rfl (ev_int (i := 3)) rfl hb2 (by decide)
      have s4 := ex_set (S := []) (i := 10) (ev_eqI he3 (ev_int (i := 0))) (by decide)
      -- leaves
      have s5 : ∃ (lv : List (List Str)) (b4 : List D), GoodL lv (1 + d1) ∧ lv.length ≤ min (2 + d2) c ∧ GoodBox b4 ∧ ExZ K [] (tAsg (tIf (tTruth K (tVar 10)) (tCall (SpZ K Rp) [] E0 (tCons (tVar 8) (tCons (tVar 9) tNil))) (tCall (SpZ K Rl) [] E0 (tCons (tVar 7) (tCons (tVar 8) (tCons (tVar 9) tNil))))) (gName 11)) [.fr (.lst (ns.map .int)), .fr (.int (f : Int)), .fr (.int (c : Int)), c3, .own (ds.map Dm.d), .own ((ds.map Dm.name).map .str), .fr (.int (m : Int)), .own b3, .fr (.int ((1 + d1 : Nat) : Int)), .fr (.int ((min (2 + d2) c : Nat) : Int)), .fr (.bl (decide (v3 = 0))), c11, c12]
          (.nx [.fr (.lst (ns.map .int)), .fr (.int (f : Int)), .fr (.int (c : Int)), c3, .own (ds.map Dm.d), .own ((ds.map Dm.name).map .str), .fr (.int (m : Int)), .own b4, .fr (.int ((1 + d1 : Nat) : Int)), .fr (.int ((min (2 + d2) c : Nat) : Int)), .fr (.bl (decide (v3 = 0))), .fr (lvD lv), c12]) := by
        by_cases hv : decide (v3 = 0) = true
        · have pl : (plainL (1 + d1) (min (2 + d2) c)).length = min (2 + d2) c := by unfold plainL; rw [List.length_map, List.length_range]
          refine ⟨plainL (1 + d1) (min (2 + d2) c), b3, plain_good (by omega) (by omega) (by omega) (by omega), by rw [pl]; exact Nat.le_refl _, hb3, ?_⟩
          refine ex_set (i := 11) (ev_ifT (ts_is (ts_truB (ev_var (i := 10) rfl)) hv) (ev_callF (ds := [.int ((1 + d1 : Nat) : Int), .int ((min (2 + d2) c : Nat) : Int)]) (ag_cons (ev_var (i := 8) rfl) (ag_cons (ev_var (i := 9) rfl) ag_nil)) (hp (1 + d1) (min (2 + d2) c) (by omega) (by omega) (by omega) (by omega)))) (by decide)
        · have hv' : decide (v3 = 0) = false := by cases h : decide (v3 = 0) with | true => exact absurd h hv | false => rfl
          obtain ⟨lv, b4, g1, g2, g3, hR⟩ := hl b3 (1 + d1) (min (2 + d2) c) hb3 (by omega) (by omega) (by omega) (by omega)
          refine ⟨lv, b4, g1, g2, g3, ?_⟩
          refine ex_set (i := 11) (ev_ifF (ts_is (ts_truB (ev_var (i := 10) rfl)) hv') (ev_callB (i := 7) (ds := [.int ((1 + d1 : Nat) : Int), .int ((min (2 + d2) c : Nat) : Int)]) rfl (ag_cons (ev_var (i := 8) rfl) (ag_cons (ev_var (i := 9) rfl) ag_nil)) rfl hR)) (by decide)
      obtain ⟨lv, b4, gl, ll, hb4, s5⟩ := s5
      have few := gl.few
      have ec : (c : Int) / ((lv.map fun ws => D.str (pathS ws)).length : Int) = ((c / lv.length : Nat) : Int) := by rw [List.length_map]; exact (Int.natCast_ediv c lv.length).symm
      have s6 := ex_set (S := []) (K := K) (ρ := [.fr (.lst (ns.map .int)), .fr (.int (f : Int)), .fr (.int (c : Int)), c3, .own (ds.map Dm.d), .own ((ds.map Dm.name).map .str), .fr (.int (m : Int)), .own b4, .fr (.int ((1 + d1 : Nat) : Int)), .fr (.int ((min (2 + d2) c : Nat) : Int)), .fr (.bl (decide (v3 = 0))), .fr (lvD lv), c12]) (i := 2) (ev_is (ev_fdiv (ev_i1 (i := 2) (n := (c : Int)) rfl) (ev_lenT (ds := lv.map fun ws => D.str (pathS ws)) (ev_var (i := 11) rfl).rd) ⟨by rw [List.length_map]; omega, by rw [List.length_map]; have := gl.most; omega⟩) (congrArg D.int ec)) (by decide)
      -- the name
      have lm : (ds.map Dm.name).length ≤ 20 := by rw [List.length_map]; have := h.l; omega
      obtain ⟨w, b5, ⟨hb5, w1, w2⟩, hRw⟩ := hw b4 (ds.map Dm.name) hb4 lm
      have s7 : ExZ K [] (tAsg (tCall (SpZ K Rw) [] E0 (tCons (tVar 7) (tCons (tVar 5) tNil))) (gName 12)) [.fr (.lst (ns.map .int)), .fr (.int (f : Int)), .fr (.int ((c / lv.length : Nat) : Int)), c3, .own (ds.map Dm.d), .own ((ds.map Dm.name).map .str), .fr (.int (m : Int)), .own b4, .fr (.int ((1 + d1 : Nat) : Int)), .fr (.int ((min (2 + d2) c : Nat) : Int)), .fr (.bl (decide (v3 = 0))), .fr (lvD lv), c12]
          (.nx [.fr (.lst (ns.map .int)), .fr (.int (f : Int)), .fr (.int ((c / lv.length : Nat) : Int)), c3, .own (ds.map Dm.d), .own ((ds.map Dm.name).map .str), .fr (.int (m : Int)), .own b5, .fr (.int ((1 + d1 : Nat) : Int)), .fr (.int ((min (2 + d2) c : Nat) : Int)), .fr (.bl (decide (v3 = 0))), .fr (lvD lv), .fr (.str w)]) :=
        ex_set (i := 12) (ev_callMT (i := 7) (j := 5) (by decide) rfl rfl hRw) (by decide)
      have s8 : ExZ K [] (tDrop (tBM K "list" rAppend (tVar 5) (tCons (tVar 12) tNil))) [.fr (.lst (ns.map .int)), .fr (.int (f : Int)), .fr (.int ((c / lv.length : Nat) : Int)), c3, .own (ds.map Dm.d), .own ((ds.map Dm.name).map .str), .fr (.int (m : Int)), .own b5, .fr (.int ((1 + d1 : Nat) : Int)), .fr (.int ((min (2 + d2) c : Nat) : Int)), .fr (.bl (decide (v3 = 0))), .fr (lvD lv), .fr (.str w)]
          (.nx [.fr (.lst (ns.map .int)), .fr (.int (f : Int)), .fr (.int ((c / lv.length : Nat) : Int)), c3, .own (ds.map Dm.d), .own ((ds.map Dm.name).map .str ++ [.str w]), .fr (.int (m : Int)), .own b5, .fr (.int ((1 + d1 : Nat) : Int)), .fr (.int ((min (2 + d2) c : Nat) : Int)), .fr (.bl (decide (v3 = 0))), .fr (lvD lv), .fr (.str w)]) :=
        ex_app (i := 5) (ev_var (i := 12) rfl) rfl rfl (by rw [List.length_map]; omega)
      have s9 : ExZ K [] (tDrop (tBM K "list" rAppend (tVar 4) (tCons (tTup (tCons (tVar 12) (tCons (tVar 11) tNil))) tNil))) [.fr (.lst (ns.map .int)), .fr (.int (f : Int)), .fr (.int ((c / lv.length : Nat) : Int)), c3, .own (ds.map Dm.d), .own ((ds.map Dm.name).map .str ++ [.str w]), .fr (.int (m : Int)), .own b5, .fr (.int ((1 + d1 : Nat) : Int)), .fr (.int ((min (2 + d2) c : Nat) : Int)), .fr (.bl (decide (v3 = 0))), .fr (lvD lv), .fr (.str w)]
          (.nx [.fr (.lst (ns.map .int)), .fr (.int (f : Int)), .fr (.int ((c / lv.length : Nat) : Int)), c3, .own (ds.map Dm.d ++ [.tup [.str w, lvD lv]]), .own ((ds.map Dm.name).map .str ++ [.str w]), .fr (.int (m : Int)), .own b5, .fr (.int ((1 + d1 : Nat) : Int)), .fr (.int ((min (2 + d2) c : Nat) : Int)), .fr (.bl (decide (v3 = 0))), .fr (lvD lv), .fr (.str w)]) :=
        ex_app (i := 4) (ev_tup (ag_cons (ev_var (i := 12) rfl) (ag_cons (ev_var (i := 11) rfl) ag_nil)) (by show 2 ≤ 100000; decide)) rfl rfl (by rw [List.length_map]; have := h.l; omega)
      have enew : ds.map Dm.d ++ [.tup [.str w, lvD lv]] = (ds ++ [Dm.mk w lv]).map Dm.d := by
        rw [List.map_append]
        congr 1
        show [D.tup [.str w, lvD lv]] = [Dm.d ⟨w, lv⟩]
        unfold Dm.d Dm.tupD Dm.paths
        rw [List.map_map]
        rfl
      have enew2 : (ds.map Dm.name).map D.str ++ [.str w] = ((ds ++ [Dm.mk w lv]).map Dm.name).map .str := by
        rw [List.map_append, List.map_append]
        rfl
      rw [enew2] at s8
      rw [enew, enew2] at s9
      have hdiv : 1 ≤ c / lv.length := (Nat.le_div_iff_mul_le (by omega)).mpr (by omega)
      have hw' : WideOk (ds ++ [Dm.mk w lv]) (m + 1) (c / lv.length) C := by
        refine ⟨by rw [List.length_append]; have := h.l; show ds.length + 1 ≤ m + 1; omega, ?_, fun x hx => ?_, hdiv, ?_, .inl (by rw [List.length_append]; show 1 ≤ ds.length + 1; omega)⟩
        · rw [List.map_append, List.nodup_append]
          refine ⟨h.names, by simp, fun a ha y hy e => ?_⟩
          rw [show [Dm.mk w lv].map Dm.name = [w] from rfl, List.mem_singleton] at hy
          subst hy
          subst e
          exact w2 ha
        · rcases List.mem_append.mp hx with z | z
          · exact h.good x z
          · rw [List.mem_singleton.mp z]; exact ⟨_, gl.dm w1⟩
        · rw [cellsN_snoc]
          show cellsN ds * lv.length * (c / lv.length) ≤ C
          rw [Nat.mul_assoc]
          exact Nat.le_trans (Nat.mul_le_mul_left _ (Nat.mul_div_le c lv.length)) h.cells
      obtain ⟨ds', c', c6', c7', c8', c9', c10', c11', c12', k1, q⟩ := wide_loop hb hd hl hp hw (ns := ns) hf hC (c3 := c3) n (m + 1) (ds ++ [Dm.mk w lv]) (c / lv.length) (.fr (.int (m : Int))) (.own b5) (.fr (.int ((1 + d1 : Nat) : Int))) (.fr (.int ((min (2 + d2) c : Nat) : Int))) (.fr (.bl (decide (v3 = 0)))) (.fr (lvD lv)) (.fr (.str w)) (by omega) hw' (fun z => by omega)
      refine ⟨ds', c', c6', c7', c8', c9', c10', c11', c12', by rw [show m + (n + 1) = m + 1 + n by omega]; exact k1, .step tg_name (ex_seq s1 (ex_ifT (ts_is ht (decide_eq_true (by omega))) (ex_seq s2 (ex_seq s3 (ex_seq s4 (ex_seq s5 (ex_seq s6 (ex_seq s7 (ex_seq s8 s9))))))))) q⟩
    · have hf1 : 1 ≤ ds.length := by
        rcases h.first with z | z
        · exact z
        · omega
      obtain ⟨ds', c', c6', c7', c8', c9', c10', c11', c12', k1, q⟩ := wide_loop hb hd hl hp hw (ns := ns) hf hC (c3 := c3) n (m + 1) ds c (.fr (.int (m : Int))) (.own b) c8 c9 c10 c11 c12 (by omega) ⟨by have := h.l; omega, h.names, h.good, h.c1, h.cells, .inl hf1⟩ (fun z => by omega)
      exact ⟨ds', c', c6', c7', c8', c9', c10', c11', c12', by rw [show m + (n + 1) = m + 1 + n by omega]; exact k1, .step tg_name (ex_seq s1 (ex_ifF (ts_is ht (decide_eq_false (by omega))) ex_next)) q⟩
theorem rel_wide (hb : Spec Rb PreBox PostBox) (hd : Spec Rd PreDraw PostDraw) (hl : CLeaves Rl) (hp : CPlain Rp) (hw : CWord Rw) : CWide (RelOf K [] (t__law_wide K Rb Rd Rl Rp Rw) 13 3) := fun ns f C hf h2 hC => by
  obtain ⟨r, cs', hR, rfl, b, hbx, rfl⟩ := hb _ ⟨ns, f, rfl, by omega⟩
  have s1 : ExZ K [] (tAsg (tCall (SpZ K Rb) [] E0 (tCons (tVar 0) (tCons (tVar 1) tNil))) (gName 3)) [.fr (.lst (ns.map .int)), .fr (.int (f : Int)), .fr (.int (C : Int)), .no, .no, .no, .no, .no, .no, .no, .no, .no, .no] (.nx [.fr (.lst (ns.map .int)), .fr (.int (f : Int)), .fr (.int (C : Int)), .own b, .no, .no, .no, .no, .no, .no, .no, .no, .no]) :=
    ex_setN (i := 3) (en_callF (ds := [.lst (ns.map .int), .int (f : Int)]) (ag_cons (ev_var (i := 0) rfl) (ag_cons (ev_var (i := 1) rfl) ag_nil)) hR) .refl (by decide)
  obtain ⟨v, b1, a1, a2, hb1, he⟩ := ev_draw (K := K) hd (i := 3) (ρ := [.fr (.lst (ns.map .int)), .fr (.int (f : Int)), .fr (.int (C : Int)), .own b, .own [], .own [], .no, .no, .no, .no, .no, .no, .no]) rfl (ev_int (i := 3)) rfl hbx (by decide)
  obtain ⟨n, rfl⟩ := Int.eq_ofNat_of_zero_le a1
  obtain ⟨ds, c', c6', c7', c8', c9', c10', c11', c12', k, q⟩ := wide_loop (K := K) hb hd hl hp hw (ns := ns) hf hC (c3 := .own b1) (1 + n) 0 [] C .no .no .no .no .no .no .no (by omega) ⟨Nat.le_refl _, .nil, fun _ h => (by cases h), by omega, by show 1 * C ≤ C; omega, .inr ⟨rfl, h2⟩⟩ (fun _ => h2)
  have et : ((1 : Int) + (n : Int)).toNat = 1 + n := by omega
  rw [← et] at q
  have cl : cellsN ds ≤ C := Nat.le_trans (Nat.le_mul_of_pos_right _ k.c1) k.cells
  refine ⟨ds, ⟨?_, by have := k.l; omega, k.names, k.good, by omega⟩, cl, rel_rt (ds := [.lst (ns.map .int), .int (f : Int), .int (C : Int)]) ⟨_, ex_seq s1 (ex_seq (ex_setN (i := 4) (en_lst ag_nil (by decide)) .refl (by decide)) (ex_seq (ex_setN (i := 5) (en_lst ag_nil (by decide)) .refl (by decide)) (ex_seq (ex_for (it_range1 (ag_cons (ev_add (ev_int (i := 1)) he) ag_nil) ⟨by omega, by omega⟩) q (by decide)) (ex_ret (ev_tupO (i := 4) (ds := ds.map Dm.d) rfl)))))⟩⟩
  rcases k.first with z | z
  · exact z
  · omega
end
end Z

set_option Elab.async false
set_option linter.all false
set_option maxRecDepth 100000
set_option maxHeartbeats 2000000
/-! SpJ: cells by their leaves, and what the numbers of groups say of them. -/
namespace Z
open PySem PySem.Spec PyProof.Rows L2
abbrev CellW := List (List Str)
def cellsR : List Dm → List CellW
  | [] => [[]]
  | d :: ds => d.leaves.flatMap fun ws => (cellsR ds).map fun c => ws :: c
def gN : List Dm → List Nat → Nat → CellW → Nat
  | d :: ds, l :: g, n, ws :: c => gN ds g (n * (memL d.leaves l).length + posW (memW d.leaves l) (ws.take l)) c
  | _, _, n, _ => n
/-- the number of the group of a cell -/
def gC (ds : List Dm) (g : List Nat) (c : CellW) : Nat := gN ds g 0 c
end Z

set_option Elab.async false
set_option linter.all false
set_option maxRecDepth 100000
set_option maxHeartbeats 2000000
/-! Law05: the law k05. -/
namespace Z
open PySem PySem.Spec PyProof.Rows L2
open Evl (Ex Ex.refl Ex.trans Ex.new ex_rd ex_l ex_t sq_of st_of fresh_back sz_of sz_lt)
namespace K05
section
variable {K : PySem.W.Frag} {ρ ρ1 : Rho} {te : TE} {Rsp Rag Rb Rs Rwd Rco Rgn Rj Rm : Rel} {C : Addr}
structure Quad (F S J M : List Nat) (L : Nat) : Prop where
  f : F.length = L
  s : S.length = L
  j : J.length = L
  m : M.length = L
  l : L ≤ 1000
  qJ : ∀ c o, c < L → o < L → (J[c]? = J[o]? ↔ F[c]? = F[o]? ∧ S[c]? = S[o]?)
  qM : ∀ c o, c < L → o < L → (M[c]? = M[o]? ↔ ∃ k, k < L ∧ F[k]? = F[c]? ∧ S[k]? = S[o]?)
end
end K05
end Z

set_option Elab.async false
set_option linter.all false
set_option maxRecDepth 100000
set_option maxHeartbeats 2000000
/-! ZRev: list(reversed(a list)); a loop over a reversed tuple. -/
namespace Z
open PySem PySem.Spec PyProof.Rows L2
open Evl (Ex Ex.refl Ex.trans Ex.new ex_rd ex_l ex_t sq_of st_of fresh_back sz_of sz_lt)
section
variable {prog : Program} {w : World} {A : Around} {E : Value → Shared → Prop} {s : Shared} {it l S : Addr} {items : Array Value}
end
section
variable {X : Cx}
end
/-! ### over cells -/
section
variable {K : PySem.W.Frag} {S : List Nat} {ρ ρ' ρ1 ρ2 ρ3 : Rho} {ta tb tc te tl : TE} {d e x y : D} {ds es xs ys rs : List D}
/-! ### data that == tells apart -/
structure EqT (α : Type) [DecidableEq α] (dd : α → D) (pd : α → PyData) (ok : α → Prop) (n : Nat) : Prop where
  dp : ∀ (K : PySem.W.Frag) (H : Hp) (v : V) (a : α), Dz K H v (dd a) → Dp K H v (pd a)
  lay : ∀ a, ok a → (pd a).canLay0 = true
  dep : ∀ a, (pd a).depth ≤ n
  eqv : ∀ a b, PyData.eqv (pd a) (pd b) = decide (a = b)
theorem EqT.int : EqT Int D.int PyData.int (fun _ => True) 0 where
  dp := fun K H v a h => by rw [h.int_inv]; exact .int a
  lay := fun _ _ => by simp [PyData.canLay0]
  dep := fun _ => by simp [PyData.depth]
  eqv := fun a b => by
    simp only [PyData.eqv]
    by_cases h : a = b
    · subst h; simp
    · simp [h]
def StrOk (x : Str) : Prop := PyData.strOk x = true
theorem EqT.str : EqT Str D.str PyData.str StrOk 0 where
  dp := fun K H v a h => by rw [h.str_inv]; exact .str a
  lay := fun _ h => by simp only [PyData.canLay0]; exact h
  dep := fun _ => by simp [PyData.depth]
  eqv := fun a b => by
    simp only [PyData.eqv]
    by_cases h : a = b
    · subst h; simp
    · simp [h]
section
variable {α : Type} [DecidableEq α] {dd : α → D} {pd : α → PyData} {ok : α → Prop} {n : Nat}
theorem EqT.dpAll (E : EqT α dd pd ok n) {H : Hp} : ∀ {vs : List V} {as : List α}, Dzs K H vs (as.map dd) → DpAll K H vs (as.map pd)
  | _, [], .nil => .nil
  | _, a :: as, .cons h hs => .cons (E.dp K H _ a h) (EqT.dpAll E hs)
theorem EqT.layAll (E : EqT α dd pd ok n) : ∀ {as : List α}, (∀ a ∈ as, ok a) → PyData.canLayAll0 (as.map pd) = true
  | [], _ => by simp [PyData.canLayAll0]
  | a :: as, h => by
    rw [List.map_cons, PyData.canLayAll0, E.lay a (h a List.mem_cons_self), EqT.layAll E fun x hx => h x (List.mem_cons_of_mem _ hx)]
    rfl
theorem EqT.depAll (E : EqT α dd pd ok n) : ∀ as : List α, PyData.depthAll (as.map pd) ≤ n + 1
  | [] => by simp [PyData.depthAll]
  | a :: as => by
    have h1 := EqT.depAll E as
    have h2 := E.dep a
    simp only [List.map_cons, PyData.depthAll]
    omega
theorem EqT.eqvAll (E : EqT α dd pd ok n) : ∀ as bs : List α, PyData.eqvAll (as.map pd) (bs.map pd) = decide (as = bs)
  | [], [] => by simp [PyData.eqvAll]
  | [], b :: bs => by simp [PyData.eqvAll]
  | a :: as, [] => by simp [PyData.eqvAll]
  | a :: as, b :: bs => by
    have h1 := EqT.eqvAll E as bs
    simp only [List.map_cons, PyData.eqvAll, E.eqv, h1]
    by_cases h : a = b
    · subst h
      simp
    · simp [h]
theorem EqT.tup (E : EqT α dd pd ok n) : EqT (List α) (fun l => .tup (l.map dd)) (fun l => .tuple (l.map pd)) (fun l => ∀ a ∈ l, ok a) (n + 2) where
  dp := fun K H v a h => by
    obtain ⟨p, xs, rfl, hs, hz⟩ := h.tup_inv
    exact .tup hs (E.dpAll hz)
  lay := fun a h => by simp only [PyData.canLay0]; exact E.layAll h
  dep := fun a => by
    have := E.depAll a
    simp only [PyData.depth]
    omega
  eqv := fun a b => by simp only [PyData.eqv]; exact E.eqvAll a b
theorem EqT.shape (E : EqT α dd pd ok n) (hn : n ≤ 60) {a : α} (h : ok a) : SeqAt.shaped (pd a) = true := by
  have := E.dep a
  simp [SeqAt.shaped, E.lay a h]
  omega
theorem EqT.shapeT (E : EqT α dd pd ok n) (hn : n ≤ 60) {as : List α} (h : ∀ a ∈ as, ok a) : SeqAt.shaped (.tuple (as.map pd)) = true := by
  have := E.depAll as
  simp [SeqAt.shaped, PyData.canLay0, E.layAll h, PyData.depth]
  omega
theorem EqT.shapeL (E : EqT α dd pd ok n) (hn : n ≤ 60) {as : List α} (h : ∀ a ∈ as, ok a) : SeqAt.shaped (.list (as.map pd)) = true := by
  have := E.depAll as
  simp [SeqAt.shaped, PyData.canLay0, E.layAll h, PyData.depth]
  omega
theorem EqT.any (E : EqT α dd pd ok n) (a : α) : ∀ as : List α, ((as.map pd).any fun z => PyData.eqv z (pd a)) = decide (a ∈ as)
  | [] => by simp
  | b :: as => by
    rw [List.map_cons, List.any_cons, EqT.any E a as, E.eqv]
    by_cases h : b = a
    · subst h; simp
    · have h' : ¬ a = b := fun z => h z.symm
      simp [h, h']
theorem ev_notInX (E : EqT α dd pd ok n) (hn : n ≤ 60) {a : α} {as : List α} (oa : ok a) (os : ∀ a ∈ as, ok a) (ha : EvZ K ta ρ ρ1 (dd a)) (hb : RdZ K tb ρ1 ρ2 (.lst (as.map dd))) : EvZ K (tOp (rNotInD K) ta tb) ρ ρ2 (.bl (!decide (a ∈ as))) :=
  ev_op ha hb fun u v G H Q e du dv q => by
    obtain ⟨p, xs, rfl, hs, hz⟩ := dv.lst_inv
    refine ⟨pd a, as.map pd, E.dp K H u a (du.mono e), .lst hs (E.dpAll hz), E.shape hn oa, E.shapeL hn os, ?_⟩
    rw [E.any]
    exact q _ (.bl _)
theorem EqT.idx (E : EqT α dd pd ok n) {a : α} {as : List α} (h : a ∈ as) : (as.map pd)[as.idxOf a]? = some (pd a) ∧ ∀ (m : Nat) (z : PyData), m < as.idxOf a → (as.map pd)[m]? = some z → PyData.eqv z (pd a) = false := by
  have hj : as.idxOf a < as.length := List.idxOf_lt_length_iff.mpr h
  refine ⟨by rw [List.getElem?_map, List.getElem?_eq_getElem hj, List.getElem_idxOf hj]; rfl, fun m z hm hz => ?_⟩
  rw [List.getElem?_map, List.getElem?_eq_getElem (by omega)] at hz
  cases hz
  rw [E.eqv]
  refine decide_eq_false fun e => ?_
  have z := List.not_of_lt_findIdx (p := fun x => x == a) (xs := as) hm
  simp at z
  exact z e
/-- xs.index(x), xs a list -/
theorem ev_indexL (E : EqT α dd pd ok n) (hn : n ≤ 60) {a : α} {as : List α} (oa : ok a) (os : ∀ a ∈ as, ok a) (hm : a ∈ as) (hl : EvZ K tl ρ ρ1 (.lst (as.map dd))) (hx : EvZ K te ρ1 ρ2 (dd a)) : EvZ K (tBM K "list" (rIndexD K) tl (tCons te tNil)) ρ ρ2 (.int (as.idxOf a : Nat)) := fun M G H σ S Q q =>
  hl M G H σ S _ fun u G1 H1 g1 s1 du => by
    obtain ⟨p, xs, rfl, hs, hz⟩ := du.lst_inv
    obtain ⟨i1, i2⟩ := E.idx hm
    exact ⟨.inl ⟨rfl, xs, ex_l s1.sub hs⟩, hx M G1 H1 σ s1 _ fun v G2 H2 g2 s2 dv => ⟨p, v, pd a, as.map pd, _, _, rfl, rfl, .lst (ex_l (g2.g.trans s2.sub) hs) (E.dpAll ((hz.mono g2.g).mono s2.sub)), E.dp K H2 v a (dv.mono s2.sub), E.shapeL hn os, E.shape hn oa, i1, by rw [E.eqv]; exact decide_eq_true rfl, i2, q _ G2 H2 (g1.trans g2) s2 (.int _)⟩⟩
end
end
end Z

set_option Elab.async false
set_option linter.all false
set_option maxRecDepth 100000
set_option maxHeartbeats 2000000
/-! ZNum2: lcm; a call with a list made for it and more arguments; comprehensions over tuples of names. -/
namespace Z
open PySem PySem.Spec PyProof.Rows L2
open Evl (Ex Ex.refl Ex.trans Ex.new ex_rd ex_l ex_t sq_of st_of fresh_back sz_of sz_lt)
variable {K : PySem.W.Frag} {S : List Nat} {ρ ρ' ρ1 ρ2 ρ3 : Rho} {ta tb tc te tl : TE} {tt tu : TT} {ts us : TS} {tr tx : TA} {d e x y : D} {ds es xs ys rs : List D} {b c : Bool} {o : Out}
theorem lcm_le_mul (a b : Nat) : Nat.lcm a b ≤ a * b := by
  unfold Nat.lcm
  exact Nat.div_le_self _ _
end Z

set_option Elab.async false
set_option linter.all false
set_option maxRecDepth 100000
set_option maxHeartbeats 2000000
/-! ZVec: xs[k] += n; zip of two lists; [x] * n with any n. -/
namespace Z
open PySem PySem.Spec PyProof.Rows L2
open Evl (Ex Ex.refl Ex.trans Ex.new ex_rd ex_l ex_t sq_of st_of fresh_back sz_of sz_lt)
section
variable {X : Cx}
end
section
variable {K : PySem.W.Frag} {S : List Nat} {ρ ρ' ρ1 ρ2 ρ3 : Rho} {ta tb tc te tk tl : TE} {tx : TA} {d e x y : D} {ds es xs ys rs : List D}
end
end Z

set_option Elab.async false
set_option linter.all false
set_option maxRecDepth 100000
set_option maxHeartbeats 2000000
/-! SpK: groups, room, grouping_of, group_of. -/
namespace Z
open PySem PySem.Spec PyProof.Rows L2
open Evl (Ex Ex.refl Ex.trans Ex.new ex_rd ex_l ex_t sq_of st_of fresh_back sz_of sz_lt)
section
variable {K : PySem.W.Frag} {C : Addr}
/-! ### cells as the program counts them -/
theorem fold_cells : ∀ (ds : List Dm) (acc : List CellW), (ds.map Dm.leaves).foldl consE acc = acc.flatMap fun a => (cellsR ds).map fun c => a ++ c
  | [], acc => by
    show acc = acc.flatMap fun a => [a ++ []]
    induction acc with
    | nil => rfl
    | cons a acc ih => rw [List.flatMap_cons, ← ih, List.append_nil]; rfl
  | d :: ds, acc => by
    rw [List.map_cons, List.foldl_cons, fold_cells ds]
    unfold consE
    rw [List.flatMap_assoc]
    refine congrArg (fun f => List.flatMap f acc) (funext fun a => ?_)
    rw [List.flatMap_map]
    show _ = List.map _ (d.leaves.flatMap fun ws => (cellsR ds).map fun c => ws :: c)
    rw [List.map_flatMap]
    refine congrArg (fun f => List.flatMap f d.leaves) (funext fun ws => ?_)
    rw [List.map_map]
    refine List.map_congr_left fun c _ => ?_
    show a ++ [ws] ++ c = a ++ ws :: c
    rw [List.append_assoc]
    rfl
theorem celS_is (ds : List Dm) : celS ds = (cellsR ds).map fun c => c.map pathS := by
  unfold celS
  have e : ds.map Dm.paths = (ds.map Dm.leaves).map fun r => r.map pathS := by rw [List.map_map]; rfl
  rw [e, choices_map]
  unfold choicesD
  rw [fold_cells ds [[]]]
  show List.map _ (List.map _ _ ++ []) = _
  rw [List.append_nil, List.map_map]
  rfl
theorem cell_good : ∀ (ds : List Dm) (c : CellW), (∀ d ∈ ds, ∃ n, d.Good n) → c ∈ cellsR ds → c.length = ds.length ∧ ∀ w ∈ c, GoodW w ∧ w.length ≤ 3
  | [], c, _, h => by
    rw [List.mem_singleton.mp h]
    exact ⟨rfl, fun _ z => (by cases z)⟩
  | d :: ds, c, hd, h => by
    obtain ⟨ws, hw, h⟩ := List.mem_flatMap.mp h
    obtain ⟨c1, hc1, rfl⟩ := List.mem_map.mp h
    obtain ⟨n, g⟩ := hd d List.mem_cons_self
    obtain ⟨h1, h2⟩ := cell_good ds c1 (fun x hx => hd x (List.mem_cons_of_mem _ hx)) hc1
    refine ⟨by rw [List.length_cons, List.length_cons, h1], fun w hw' => ?_⟩
    rcases List.mem_cons.mp hw' with e | e
    · rw [e]; exact ⟨g.words ws hw, by rw [g.depth ws hw]; exact g.n3⟩
    · exact h2 w e
end
end Z

set_option Elab.async false
set_option linter.all false
set_option maxRecDepth 100000
set_option maxHeartbeats 2000000
/-! SpL: the number of a cell by its coordinates; groups taken. -/
namespace Z
open PySem PySem.Spec PyProof.Rows L2
open Evl (Ex Ex.refl Ex.trans Ex.new ex_rd ex_l ex_t sq_of st_of fresh_back sz_of sz_lt)
/-! ### cells are different ones -/
theorem leaves_nd {d : Dm} {n : Nat} (h : d.Good n) : d.leaves.Nodup := by
  have q := h.asc
  unfold Dm.paths at q
  rw [List.pairwise_map] at q
  exact q.imp fun {a b} hab e => by
    rw [e] at hab
    exact List.lt_irrefl _ hab
theorem cellsR_nd : ∀ ds : List Dm, (∀ d ∈ ds, ∃ n, d.Good n) → (cellsR ds).Nodup
  | [], _ => by
    show [([] : CellW)].Nodup
    simp
  | d :: ds, h => by
    obtain ⟨n, g⟩ := h d List.mem_cons_self
    have ih := cellsR_nd ds fun x hx => h x (List.mem_cons_of_mem _ hx)
    have all : ∀ lv : List (List Str), lv.Nodup → (lv.flatMap fun ws => (cellsR ds).map fun c => ws :: c).Nodup := fun lv => by
      induction lv with
      | nil => exact fun _ => .nil
      | cons w lv ih2 =>
        intro hn
        rw [List.nodup_cons] at hn
        rw [List.flatMap_cons, List.nodup_append]
        refine ⟨List.pairwise_map.mpr (ih.imp fun {a b} hab e => hab (by injection e)), ih2 hn.2, fun a ha b hb e => ?_⟩
        subst e
        obtain ⟨c1, _, rfl⟩ := List.mem_map.mp ha
        obtain ⟨w2, hw2, hb⟩ := List.mem_flatMap.mp hb
        obtain ⟨c2, _, e⟩ := List.mem_map.mp hb
        injection e with e1 e2
        rw [e1] at hw2
        exact hn.1 hw2
    exact all d.leaves (leaves_nd g)
theorem map_path_inj : ∀ {a b : CellW}, (∀ w ∈ a, GoodW w) → (∀ w ∈ b, GoodW w) → a.map pathS = b.map pathS → a = b
  | [], [], _, _, _ => rfl
  | [], _ :: _, _, _, h => by cases h
  | _ :: _, [], _, _, h => by cases h
  | x :: a, y :: b, ha, hb, h => by
    rw [List.map_cons, List.map_cons] at h
    injection h with h1 h2
    rw [path_inj (ha x List.mem_cons_self) (hb y List.mem_cons_self) h1, map_path_inj (fun w hw => ha w (List.mem_cons_of_mem _ hw)) (fun w hw => hb w (List.mem_cons_of_mem _ hw)) h2]
theorem celS_nd {ds : List Dm} (g : GoodDs ds) : (celS ds).Nodup := by
  rw [celS_is]
  refine List.pairwise_map.mpr (List.Pairwise.imp_of_mem (fun {a b} ha hb hab e => hab ?_) (cellsR_nd ds g.good))
  exact map_path_inj (fun w hw => ((cell_good ds a g.good ha).2 w hw).1) (fun w hw => ((cell_good ds b g.good hb).2 w hw).1) e
end Z

set_option Elab.async false
set_option linter.all false
set_option maxRecDepth 100000
set_option maxHeartbeats 2000000
/-! SpM: Space.cell, check_group, group_cells. -/
namespace Z
open PySem PySem.Spec PyProof.Rows L2
open Evl (Ex Ex.refl Ex.trans Ex.new ex_rd ex_l ex_t sq_of st_of fresh_back sz_of sz_lt)
namespace K04
end K04
section
variable {K : PySem.W.Frag} {C : Addr}
end
/-! ### the leaves below a member, by themselves -/
end Z

set_option Elab.async false
set_option linter.all false
set_option maxRecDepth 100000
set_option maxHeartbeats 2000000
/-! SpN: group_cells. -/
namespace Z
open PySem PySem.Spec PyProof.Rows L2
open Evl (Ex Ex.refl Ex.trans Ex.new ex_rd ex_l ex_t sq_of st_of fresh_back sz_of sz_lt)
section
variable {K : PySem.W.Frag} {C : Addr}
end
end Z

set_option Elab.async false
set_option linter.all false
set_option maxRecDepth 100000
set_option maxHeartbeats 2000000
/-! LawP: how laws count cells and name groups: _law_prefix, _law_count, _law_parts, _law_group. -/
namespace Z
open PySem PySem.Spec PyProof.Rows L2
open Evl (Ex Ex.refl Ex.trans Ex.new ex_rd ex_l ex_t sq_of st_of fresh_back sz_of sz_lt)
section
variable {K : PySem.W.Frag}
/-! ### _law_prefix -/
/-! ### _law_count -/
/-! ### _law_parts -/
/-! ### _law_group -/
end
end Z

set_option Elab.async false
set_option linter.all false
set_option maxRecDepth 100000
set_option maxHeartbeats 2000000
/-! LawN: numbers that laws draw; gcd; fractions. -/
namespace Z
open PySem PySem.Spec PyProof.Rows L2
open Evl (Ex Ex.refl Ex.trans Ex.new ex_rd ex_l ex_t sq_of st_of fresh_back sz_of sz_lt)
section
variable {K : PySem.W.Frag}
/-! ### sizes -/
def Bd (n : Nat) (i : Int) : Prop := i.natAbs < 2 ^ n
theorem Bd.mono {a b : Nat} {i : Int} (h : Bd a i) (hab : a ≤ b) : Bd b i := Nat.lt_of_lt_of_le h (Nat.pow_le_pow_right (by decide) hab)
theorem Bd.le {a : Nat} {i j : Int} (h : Bd a i) (hj : j.natAbs ≤ i.natAbs) : Bd a j := Nat.lt_of_le_of_lt hj h
theorem Bd.add {a : Nat} {i j : Int} (h : Bd a i) (k : Bd a j) : Bd (a + 1) (i + j) := by
  unfold Bd at *
  rw [Nat.pow_succ]
  have := Int.natAbs_add_le i j
  omega
theorem Bd.sub {a : Nat} {i j : Int} (h : Bd a i) (k : Bd a j) : Bd (a + 1) (i - j) := by
  have e : i - j = i + -j := by omega
  rw [e]
  exact h.add (by unfold Bd; rw [Int.natAbs_neg]; exact k)
/-! ### fractions -/
def sgT (t b : Int) : Int := if b < 0 then -t else t
def gcI (t b : Int) : Int := (Nat.gcd t.natAbs b.natAbs : Nat)
/-- in lowest terms, the lower part at least 1 -/
def FR (t b : Int) : Int × Int := ((sgT t b).fdiv (gcI t b), (sgT b b).fdiv (gcI t b))
def frD (p : Int × Int) : D := .tup [.int p.1, .int p.2]
theorem gcI_pos {t b : Int} (h : b ≠ 0) : 0 < gcI t b := by
  unfold gcI
  have : 0 < Nat.gcd t.natAbs b.natAbs := Nat.gcd_pos_of_pos_right _ (by omega)
  omega
theorem gcI_dvd_l (t b : Int) : gcI t b ∣ t := by
  have h : ((Nat.gcd t.natAbs b.natAbs : Nat) : Int) ∣ (t.natAbs : Int) := Int.natCast_dvd_natCast.mpr (Nat.gcd_dvd_left _ _)
  exact Int.dvd_natAbs.mp h
theorem gcI_dvd_r (t b : Int) : gcI t b ∣ b := by
  have h : ((Nat.gcd t.natAbs b.natAbs : Nat) : Int) ∣ (b.natAbs : Int) := Int.natCast_dvd_natCast.mpr (Nat.gcd_dvd_right _ _)
  exact Int.dvd_natAbs.mp h
theorem sgT_abs (t b : Int) : (sgT t b).natAbs = t.natAbs := by unfold sgT; split <;> omega
theorem sgT_dvd {g t b : Int} (h : g ∣ t) : g ∣ sgT t b := by
  unfold sgT
  split
  · exact (Int.dvd_neg).mpr h
  · exact h
theorem FR_mul1 {t b : Int} (h : b ≠ 0) : (FR t b).1 * gcI t b = sgT t b := by
  show (sgT t b).fdiv (gcI t b) * gcI t b = _
  rw [Int.fdiv_eq_ediv_of_nonneg _ (Int.le_of_lt (gcI_pos h))]
  exact Int.ediv_mul_cancel (sgT_dvd (gcI_dvd_l t b))
theorem FR_mul2 {t b : Int} (h : b ≠ 0) : (FR t b).2 * gcI t b = sgT b b := by
  show (sgT b b).fdiv (gcI t b) * gcI t b = _
  rw [Int.fdiv_eq_ediv_of_nonneg _ (Int.le_of_lt (gcI_pos h))]
  exact Int.ediv_mul_cancel (sgT_dvd (gcI_dvd_r t b))
theorem natAbs_le_mul {x g y : Int} (h : x * g = y) (hg : 0 < g) : x.natAbs ≤ y.natAbs := by
  rw [← h, Int.natAbs_mul]
  have : 1 ≤ g.natAbs := by omega
  exact Nat.le_mul_of_pos_right _ this
theorem FR_pos {t b : Int} (h : b ≠ 0) : 1 ≤ (FR t b).2 := by
  have e := FR_mul2 (t := t) h
  have g := gcI_pos (t := t) h
  have s : 0 < sgT b b := by unfold sgT; split <;> omega
  rw [← e] at s
  have := Int.pos_of_mul_pos_left s g
  omega
theorem FR_bd1 {n : Nat} {t b : Int} (h : b ≠ 0) (ht : Bd n t) : Bd n (FR t b).1 := ht.le (by
  have := natAbs_le_mul (FR_mul1 (t := t) h) (gcI_pos h)
  rw [sgT_abs] at this
  exact this)
theorem FR_bd2 {n : Nat} {t b : Int} (h : b ≠ 0) (hb : Bd n b) : Bd n (FR t b).2 := hb.le (by
  have := natAbs_le_mul (FR_mul2 (t := t) h) (gcI_pos h)
  rw [sgT_abs] at this
  exact this)
/-! ### fraction -/
def CFr (R : Rel) : Prop := ∀ t b : Int, b ≠ 0 → Bd 8000 b → R [.fr (.int t), .fr (.int b)] (.fr (frD (FR t b))) [.fr (.int t), .fr (.int b)]
/-! ### _law_gcd -/
def CGcd (R : Rel) : Prop := ∀ t b : Int, R [.fr (.int t), .fr (.int b)] (.fr (.int (gcI t b))) [.fr (.int t), .fr (.int b)]
/-! ### _law_fraction -/
/-! ### plus, minus, times, over, below -/
section
variable {Rf : Rel} (hf : CFr Rf)
include hf
end
/-! ### _law_number -/
end
end Z

set_option Elab.async false
set_option linter.all false
set_option maxRecDepth 100000
set_option maxHeartbeats 2000000
/-! LawV: vectors of fractions: inner products, primitive forms. -/
namespace Z
open PySem PySem.Spec PyProof.Rows L2
open Evl (Ex Ex.refl Ex.trans Ex.new ex_rd ex_l ex_t sq_of st_of fresh_back sz_of sz_lt)
section
variable {K : PySem.W.Frag}
abbrev Fra := Int × Int
def vecD (ps : List Fra) : D := .tup (ps.map frD)
/-- a fraction of small parts -/
def FraOk (n : Nat) (p : Fra) : Prop := Bd n p.1 ∧ Bd n p.2 ∧ 1 ≤ p.2
def fTimes (p q : Fra) : Fra := FR (p.1 * q.1) (p.2 * q.2)
def fPlus (p q : Fra) : Fra := FR (p.1 * q.2 + q.1 * p.2) (p.2 * q.2)
def fMinus (p q : Fra) : Fra := FR (p.1 * q.2 - q.1 * p.2) (p.2 * q.2)
/-! ### inner -/
def innerV : Fra → List (Fra × Fra) → Fra
  | t, [] => t
  | t, (p, q) :: l => innerV (fPlus t (fTimes p q)) l
def CInner (R : Rel) : Prop := ∀ ps qs : List Fra, ps.length = qs.length → ps.length ≤ 20 → (∀ p ∈ ps, FraOk 40 p) → (∀ p ∈ qs, FraOk 40 p) → R [.fr (vecD ps), .fr (vecD qs)] (.fr (frD (innerV (0, 1) (ps.zip qs)))) [.fr (vecD ps), .fr (vecD qs)]
/-! ### primitive -/
def lcmL (l : Int) (ps : List Fra) : Int := ps.foldl (fun l p => ((Nat.lcm l.natAbs p.2.natAbs : Nat) : Int)) l
def gcdL (g : Int) (xs : List Int) : Int := xs.foldl (fun g x => gcI g x) g
def priI (ps : List Fra) : List Int := ps.map fun p => p.1 * (lcmL 1 ps).fdiv p.2
def priV (ps : List Fra) : List Int := (priI ps).map fun i => i.fdiv (max (gcdL 0 (priI ps)) 1)
theorem lcm_bd {a b : Nat} {i j : Int} (h : Bd a i) (k : Bd b j) : Bd (a + b) ((Nat.lcm i.natAbs j.natAbs : Nat) : Int) := by
  unfold Bd at *
  rw [Int.natAbs_natCast, Nat.pow_add]
  exact Nat.lt_of_le_of_lt (lcm_le_mul _ _) (Nat.mul_lt_mul'' h k)
theorem lcm_pos' {i j : Int} (h : 1 ≤ i) (k : 1 ≤ j) : 1 ≤ ((Nat.lcm i.natAbs j.natAbs : Nat) : Int) := by
  have := Nat.lcm_pos (m := i.natAbs) (n := j.natAbs) (by omega) (by omega)
  omega
theorem lcmL_facts : ∀ (ps : List Fra) (l : Int) (n : Nat), 1 ≤ l → Bd n l → (∀ p ∈ ps, FraOk 40 p) → 1 ≤ lcmL l ps ∧ Bd (n + 40 * ps.length) (lcmL l ps) ∧ l ∣ lcmL l ps ∧ ∀ p ∈ ps, p.2 ∣ lcmL l ps
  | [], l, n, h1, h2, _ => ⟨h1, h2, Int.dvd_refl _, fun p hp => by cases hp⟩
  | p :: ps, l, n, h1, h2, h3 => by
    have hp := h3 p List.mem_cons_self
    obtain ⟨a, b, c, d⟩ := lcmL_facts ps ((Nat.lcm l.natAbs p.2.natAbs : Nat) : Int) (n + 40) (lcm_pos' h1 hp.2.2) (lcm_bd h2 hp.2.1) (fun x hx => h3 x (List.mem_cons_of_mem _ hx))
    refine ⟨a, b.mono (by rw [List.length_cons]; omega), Int.dvd_trans ?_ c, fun q hq => ?_⟩
    · exact Int.natAbs_dvd_natAbs.mp (by rw [Int.natAbs_natCast]; exact Nat.dvd_lcm_left _ _)
    · rcases List.mem_cons.mp hq with rfl | hq
      · exact Int.dvd_trans (Int.natAbs_dvd_natAbs.mp (by rw [Int.natAbs_natCast]; exact Nat.dvd_lcm_right _ _)) c
      · exact d q hq
def VecOk (ps : List Fra) : Prop := ps.length ≤ 20 ∧ ∀ p ∈ ps, FraOk 40 p
theorem bd_one : Bd 1 1 := by unfold Bd; decide
theorem VecOk.lcm {ps : List Fra} (h : VecOk ps) : 1 ≤ lcmL 1 ps ∧ Bd 900 (lcmL 1 ps) ∧ ∀ p ∈ ps, p.2 ∣ lcmL 1 ps := by
  obtain ⟨a, b, _, d⟩ := lcmL_facts ps 1 1 (by decide) bd_one h.2
  exact ⟨a, b.mono (by have := h.1; omega), d⟩
def CPri (R : Rel) : Prop := ∀ ps : List Fra, VecOk ps → R [.fr (vecD ps)] (.fr (.tup ((priV ps).map .int))) [.fr (vecD ps)]
/-! ### what primitive forms are -/
theorem gcI_scale (g x m : Int) (hm : 0 ≤ m) : gcI (g * m) (x * m) = gcI g x * m := by
  unfold gcI
  rw [Int.natAbs_mul, Int.natAbs_mul, Nat.gcd_mul_right, Int.natCast_mul, Int.natAbs_of_nonneg hm]
end
end Z

set_option Elab.async false
set_option linter.all false
set_option maxRecDepth 100000
set_option maxHeartbeats 2000000
/-! SpO: indicator. -/
namespace Z
open PySem PySem.Spec PyProof.Rows L2
open Evl (Ex Ex.refl Ex.trans Ex.new ex_rd ex_l ex_t sq_of st_of fresh_back sz_of sz_lt)
theorem ixN_nat {n j : Nat} (h : j < n) : ixN n (j : Int) = some j := by
  unfold ixN
  rw [if_pos (by omega), if_pos (by omega), Int.toNat_natCast]
def ones (js : List Nat) (xs : List Nat) : List Nat := js.foldl (fun xs j => xs.set j 1) xs
section
variable {K : PySem.W.Frag} {C : Addr}
end
end Z

set_option Elab.async false
set_option linter.all false
set_option maxRecDepth 100000
set_option maxHeartbeats 2000000
/-! LawM: projections and means. -/
namespace Z
open PySem PySem.Spec PyProof.Rows L2
open Evl (Ex Ex.refl Ex.trans Ex.new ex_rd ex_l ex_t sq_of st_of fresh_back sz_of sz_lt)
section
/-! ### fractions of one value -/
theorem FR_scale {t b k : Int} (hk : 0 < k) : FR (t * k) (b * k) = FR t b := by
  have hg : gcI (t * k) (b * k) = gcI t b * k := gcI_scale t b k (by omega)
  have hs : ∀ x : Int, sgT (x * k) (b * k) = sgT x b * k := fun x => by
    unfold sgT
    by_cases h : b < 0
    · rw [if_pos h, if_pos (Int.mul_neg_of_neg_of_pos h hk), Int.neg_mul]
    · rw [if_neg h, if_neg (by have := Int.mul_nonneg (show 0 ≤ b by omega) (show 0 ≤ k by omega); omega)]
  unfold FR
  rw [hg, hs, hs, Int.mul_fdiv_mul_of_pos_left _ _ hk, Int.mul_fdiv_mul_of_pos_left _ _ hk]
theorem FR_congr {t b t' b' : Int} (hb : 0 < b) (hb' : 0 < b') (h : t * b' = t' * b) : FR t b = FR t' b' := by
  rw [← FR_scale (t := t) (b := b) hb', ← FR_scale (t := t') (b := b') hb, h, Int.mul_comm b b']
/-- the value stays -/
theorem FR_val {t b : Int} (hb : 0 < b) : (FR t b).1 * b = t * (FR t b).2 := by
  have h1 := FR_mul1 (t := t) (b := b) (by omega)
  have h2 := FR_mul2 (t := t) (b := b) (by omega)
  have s : ∀ x : Int, sgT x b = x := fun x => by unfold sgT; rw [if_neg (by omega)]
  rw [s] at h1 h2
  have hg := gcI_pos (t := t) (b := b) (by omega)
  have e : (FR t b).1 * b * gcI t b = t * (FR t b).2 * gcI t b := by
    calc (FR t b).1 * b * gcI t b = ((FR t b).1 * gcI t b) * b := by simp only [Int.mul_assoc, Int.mul_comm, Int.mul_left_comm]
      _ = t * ((FR t b).2 * gcI t b) := by rw [h1, h2]
      _ = t * (FR t b).2 * gcI t b := by rw [Int.mul_assoc]
  exact Int.eq_of_mul_eq_mul_right (by omega) e
theorem FR_idem {t b : Int} (hb : 0 < b) : FR (FR t b).1 (FR t b).2 = FR t b :=
  FR_congr (by have := FR_pos (t := t) (b := b) (by omega); omega) hb (FR_val hb)
/-- in lowest terms -/
def Low (p : Fra) : Prop := 1 ≤ p.2 ∧ FR p.1 p.2 = p
theorem FR_low {t b : Int} (hb : 0 < b) : Low (FR t b) := ⟨FR_pos (by omega), FR_idem hb⟩
theorem fPlus_low {p q : Fra} (hp : 1 ≤ p.2) (hq : 1 ≤ q.2) : Low (fPlus p q) := FR_low (Int.mul_pos (by omega) (by omega))
/-! ### sums over groups -/
def selF (j : Nat) (L : List (Nat × Fra)) : List Fra := (L.filter fun x => decide (x.1 = j)).map (·.2)
def sumF (t : Fra) (l : List Fra) : Fra := l.foldl fPlus t
/-- all that is summed stays small -/
structure Safe (L : List (Nat × Fra)) : Prop where
  ent : ∀ x ∈ L, FraOk 3990 x.2
  tot : ∀ pre suf : List (Nat × Fra), L = pre ++ suf → ∀ j, FraOk 3990 (sumF (0, 1) (selF j pre))
/-! ### a projection's projection -/
/-! ### numbers of groups -/
/-! ### projection -/
section
variable {K : PySem.W.Frag} {C : Addr} {Rg Ro Rp Rr : Rel} {cz : V}
end
end
end Z

set_option Elab.async false
set_option linter.all false
set_option maxRecDepth 100000
set_option maxHeartbeats 2000000
/-! Law21: the law k21, what its rows come to. -/
namespace Z
open PySem PySem.Spec PyProof.Rows L2
open Evl (Ex Ex.refl Ex.trans Ex.new ex_rd ex_l ex_t sq_of st_of fresh_back sz_of sz_lt)
namespace K21
section
variable {K : PySem.W.Frag}
/-! ### _law_is_integers -/
def CInts (R : Rel) : Prop := ∀ is : List Int, is.length ≤ 1000 → R [.fr (.tup (is.map .int)), .fr (.int (is.length : Int))] (.fr (.bl true)) [.fr (.tup (is.map .int)), .fr (.int (is.length : Int))]
/-! ### _law_add, _law_a_fraction, _law_vector, _law_inner -/
def CVec (R : Rel) : Prop := ∀ (b : List D) (m : Nat), GoodBox b → m ≤ 20 → ∃ (ps : List Fra) (b' : List D), GoodBox b' ∧ ps.length = m ∧ (∀ p ∈ ps, FraOk 40 p) ∧ R [.own b, .fr (.int (m : Int))] (.fr (vecD ps)) [.own b', .fr (.int (m : Int))]
/-! ### the law -/
def CBox (R : Rel) : Prop := ∀ (ns : List Int) (k : Nat), k ≤ 1000000 → ∃ b, GoodBox b ∧ R [.fr (.lst (ns.map .int)), .fr (.int (k : Int))] (.own b) [.fr (.lst (ns.map .int)), .fr (.int (k : Int))]
def CSame (n : Nat) (R : Rel) : Prop := ∀ d : D, Plain n d → R [.fr d, .fr d] (.fr (.bl true)) [.fr d, .fr d]
section
variable {Rb Rd Rg Rli Rii Rs Rv Ri Rp : Rel}
variable {ps : List Fra} (h : VecOk ps)
theorem f1 {ρ : Rho} {te : TE} {p : Fra} (h : EvZ K te ρ ρ (frD p)) : EvZ K (tOp (rIx K) te (tC (.int 0))) ρ ρ (.int p.1) := ev_ixT h ev_int (by rfl)
theorem f2 {ρ : Rho} {te : TE} {p : Fra} (h : EvZ K te ρ ρ (frD p)) : EvZ K (tOp (rIx K) te (tC (.int 1))) ρ ρ (.int p.2) := ev_ixT h ev_int (by rfl)
def rr (c0 c1 c2 c4 c6 c7 c8 c9 : Cell) (ps : List Fra) : Rho := [c0, c1, c2, .fr (vecD ps), c4, .fr (.tup ((priV ps).map .int)), c6, c7, c8, c9]
end
section
variable {Rb Rd Rg Rli Rii Rs Rv Ri Rp : Rel} (hb : CBox Rb) (hd : Spec Rd PreDraw PostDraw) (hg : CGcd Rg) (hli : CInner Rli) (hii : CInts Rii) (hs : CSame 2 Rs) (hv : CVec Rv) (hi : CInner Ri) (hp : CPri Rp)
end
end
end K21
end Z

set_option Elab.async false
set_option linter.all false
set_option maxRecDepth 100000
set_option maxHeartbeats 2000000
/-! Law22: means by laws; the law k22. -/
namespace Z
open PySem PySem.Spec PyProof.Rows L2
open Evl (Ex Ex.refl Ex.trans Ex.new ex_rd ex_l ex_t sq_of st_of fresh_back sz_of sz_lt)
section
variable {K : PySem.W.Frag}
/-! ### groups of cells, told apart -/
theorem joinL_mem {S : List Nat} : ∀ {ps : List (List Nat)} {c : Nat}, c ∈ TL.joinL S ps → c ∈ S ∨ ∃ p ∈ ps, c ∈ p
  | [], c, h => by cases h
  | [p], c, h => .inr ⟨p, List.mem_cons_self, h⟩
  | p :: q :: r, c, h => by
    have h' : c ∈ p ++ (S ++ TL.joinL S (q :: r)) := h
    rcases List.mem_append.mp h' with h | h
    · exact .inr ⟨p, List.mem_cons_self, h⟩
    · rcases List.mem_append.mp h with h | h
      · exact .inl h
      · rcases joinL_mem h with h | ⟨x, hx, h⟩
        · exact .inl h
        · exact .inr ⟨x, List.mem_cons_of_mem _ hx, h⟩
theorem let_small : ∀ c ∈ letS.cps.toList, c < 0x110000 := by decide +kernel
theorem path_ok {ws : List Str} (h : GoodW ws) : StrOk (pathS ws) := by
  unfold StrOk PyData.strOk
  rw [← Array.all_toList]
  refine List.all_eq_true.mpr fun c hc => decide_eq_true ?_
  have e : (pathS ws).cps.toList = TL.joinL (TL.tl slS) (ws.map TL.tl) := by
    show TL.tl (Txt.join slS ws) = _
    rw [TL.join_eq, TL.tl_join]
  rw [e] at hc
  rcases joinL_mem hc with h1 | ⟨p, hp, h1⟩
  · have : TL.tl slS = [47] := by decide +kernel
    rw [this] at h1
    rw [List.mem_singleton.mp h1]
    decide
  · obtain ⟨w, hw, rfl⟩ := List.mem_map.mp hp
    exact let_small c (word_letters (h w hw) c h1)
section
variable {Ra Rc Rf Rg : Rel} {ds : List Dm} {g : List Nat} {ps : List Fra}
end
end
end Z

set_option Elab.async false
set_option linter.all false
set_option maxRecDepth 100000
set_option maxHeartbeats 2000000
/-! SpP: groups, each once, in the order of their first cells: the product of the members; the place of a cell's group. -/
namespace Z
open PySem PySem.Spec PyProof.Rows L2
section
variable {α β : Type} [DecidableEq α] [DecidableEq β]
end
end Z

set_option Elab.async false
set_option linter.all false
set_option maxRecDepth 100000
set_option maxHeartbeats 2000000
/-! SpP2: groups by texts, their places, their cells. -/
namespace Z
open PySem PySem.Spec PyProof.Rows L2
section
variable {α β : Type} [DecidableEq α] [DecidableEq β]
theorem idx_at : ∀ {l : List α} {i : Nat} {x : α}, l.Nodup → l[i]? = some x → l.idxOf x = i
  | [], _, _, _, e => by cases e
  | a :: l, 0, x, _, e => by
    have e' : a = x := Option.some.inj e
    subst e'
    exact List.idxOf_cons_self
  | a :: l, i + 1, x, h, e => by
    have e' : l[i]? = some x := e
    have h' := List.nodup_cons.mp h
    have ne : a ≠ x := fun z => h'.1 (by rw [z]; exact List.mem_of_getElem? e')
    rw [List.idxOf_cons, show (a == x) = false from beq_eq_false_iff_ne.mpr ne, idx_at h'.2 e']
    rfl
end
end Z

set_option Elab.async false
set_option linter.all false
set_option maxRecDepth 100000
set_option maxHeartbeats 2000000
/-! ZTupF: a tuple made at run time whose object is known (no dict): its method index, for data of any depth. -/
namespace L2
open PySem PySem.Spec PyProof.Rows
section
variable {X : Cx}
end
end L2

set_option Elab.async false
set_option linter.all false
set_option maxRecDepth 100000
set_option maxHeartbeats 2000000
/-! Law04: the law k04: groups part cells. -/
namespace L2
open PySem PySem.Spec PyProof.Rows
end L2
namespace Z
open PySem PySem.Spec PyProof.Rows L2
open Evl (Ex Ex.refl Ex.trans Ex.new ex_rd ex_l ex_t sq_of st_of fresh_back sz_of sz_lt)
namespace K04
section
variable {K : PySem.W.Frag} {S : List Nat} {ρ ρ' ρ1 ρ2 : Rho} {ta tb te tl : TE} {ds es : List D} {C : Addr}
end
/-! ### _law_groups -/
section
variable {K : PySem.W.Frag} {C : Addr} {Rc Rg : Rel}
end
/-! ### the law -/
section
variable {K : PySem.W.Frag} {C : Addr} {Rsp Rag Rb Rct Rlg Rlgs Rs Rwd Rgc Rgn Rg1 Rgo Rgs Rin Rrm : Rel}
end
section
variable {K : PySem.W.Frag} {C : Addr} {Rsp Rag Rb Rct Rlg Rlgs Rs Rwd Rgc Rgn Rg1 Rgo Rgs Rin Rrm : Rel}
end
end K04
end Z

set_option Elab.async false
set_option linter.all false
set_option maxRecDepth 100000
set_option maxHeartbeats 2000000
/-! Law01: the law k01: cells and coordinates. -/
namespace Z
open PySem PySem.Spec PyProof.Rows L2
open Evl (Ex Ex.refl Ex.trans Ex.new ex_rd ex_l ex_t sq_of st_of fresh_back sz_of sz_lt)
section
variable {K : PySem.W.Frag} {ρ ρ' ρ1 ρ2 : Rho} {te ta tb tl : TE} {d : D}
/-- a call: an own object of a slot, and a list made for the call -/
theorem ev_callMN {R : Rel} {X : XK} {i : Nat} {b1 b2 : MO} {us : List D} (h0 : ρ[i]? = some (.mu b1)) (h : EvN K tl ρ ρ us) (hR : R [.mu b1, .own us] (.fr d) [.mu b2, .own us]) : EvZ K (tCall (SpZ K R) [] X (tCons (tVar i) (tCons tl tNil))) ρ (ρ.set i (.mu b2)) d := fun M G H σ S Q q => by
  obtain ⟨p0, o0, e0, _⟩ := S.mu h0
  refine ⟨.ref p0, e0, h M G H σ S _ fun p vs G1 H1 g1 s1 hp gp hp1 dz => ?_⟩
  have nw := EvN.noOwn (vs := vs) S s1 hp OwnIn.refl
  have hi : i < ρ.length := (List.getElem?_eq_some_iff.mp h0).1
  have hs : i < σ.length := by rw [s1.len]; exact hi
  have el := s1.len
  have lo : ∀ {α : Type} {l : List α} {x : α} {k : Nat} {c : α}, (l ++ [x])[k]? = some c → (k < l.length ∧ l[k]? = some c) ∨ (k = l.length ∧ c = x) := fun {α l x k c} e => by
    by_cases hk : k < l.length
    · rw [List.getElem?_append_left hk] at e
      exact .inl ⟨hk, e⟩
    · have hk2 : k < (l ++ [x]).length := (List.getElem?_eq_some_iff.mp e).1
      rw [List.length_append, List.length_singleton] at hk2
      have : k = l.length := by omega
      subst this
      rw [List.getElem?_append_right (Nat.le_refl _), Nat.sub_self] at e
      cases e
      exact .inr ⟨rfl, rfl⟩
  have S2 : Sim K (fun a => M a ∨ a = p) G1 H1 (σ ++ [some (.ref p)]) (ρ ++ [.own us]) := by
    refine ⟨by rw [List.length_append, List.length_append, el]; rfl, s1.sub, fun {j d} e => ?_, fun {j m} e => ?_, fun {j k m n a} ne e1 e2 e3 e4 => ?_⟩
    · rcases lo e with ⟨hk, e⟩ | ⟨_, z⟩
      · obtain ⟨v, v1, v2⟩ := s1.fr e
        exact ⟨v, by rw [List.getElem?_append_left (by rw [el]; exact hk)]; exact v1, v2⟩
      · cases z
    · rcases lo e with ⟨hk, e⟩ | ⟨hk, z⟩
      · obtain ⟨a, o, v1, v2, v3⟩ := s1.mu e
        exact ⟨a, o, by rw [List.getElem?_append_left (by rw [el]; exact hk)]; exact v1, .inl v2, v3⟩
      · cases z
        subst hk
        exact ⟨p, .lst vs, by rw [← el, List.getElem?_append_right (Nat.le_refl _), Nat.sub_self]; rfl, .inr rfl, gp, hp1, dz⟩
    · rcases lo e1 with ⟨h1, e1⟩ | ⟨h1, z1⟩
      · rw [List.getElem?_append_left (by rw [el]; exact h1)] at e3
        rcases lo e2 with ⟨h2, e2⟩ | ⟨h2, z2⟩
        · rw [List.getElem?_append_left (by rw [el]; exact h2)] at e4
          exact s1.apart ne e1 e2 e3 e4
        · subst h2
          rw [← el, List.getElem?_append_right (Nat.le_refl _), Nat.sub_self] at e4
          cases e4
          exact nw j m e1 e3
      · subst h1
        rw [← el, List.getElem?_append_right (Nat.le_refl _), Nat.sub_self] at e3
        cases e3
        rcases lo e2 with ⟨h2, e2⟩ | ⟨h2, z2⟩
        · rw [List.getElem?_append_left (by rw [el]; exact h2)] at e4
          exact nw k n e2 e4
        · exact ne h2.symm
  have key := ev_callMT (K := K) (X := X) (i := i) (j := ρ.length) (Nat.ne_of_lt hi) (by rw [List.getElem?_append_left hi]; exact h0) (by rw [List.getElem?_append_right (Nat.le_refl _), Nat.sub_self]; rfl) hR _ G1 H1 _ S2 Q (fun v G' H' g s r => by
    have ap : ∀ (j : Nat) (m : MO), (ρ.set i (.mu b2))[j]? = some (.mu m) → σ[j]? ≠ some (some (.ref p)) := fun j m ej e2 => by
      have hj : j < ρ.length := by have := (List.getElem?_eq_some_iff.mp ej).1; rw [List.length_set] at this; exact this
      refine s.apart (i := j) (j := ρ.length) (m := m) (n := .lst us) (p := p) (Nat.ne_of_lt hj) ?_ ?_ ?_ ?_
      · rw [List.set_append_left _ _ hi, List.getElem?_append_left (by rw [List.length_set]; exact hj)]; exact ej
      · rw [List.set_append_left _ _ hi, List.getElem?_append_right (by rw [List.length_set]; exact Nat.le_refl _), List.length_set, Nat.sub_self]; rfl
      · rw [List.getElem?_append_left (by rw [el]; exact hj)]; exact e2
      · rw [← el, List.getElem?_append_right (Nat.le_refl _), Nat.sub_self]; rfl
    refine q v G' H' ⟨g1.g.trans g.g, fun a o n e => g.k a o (fun z => ?_) (g1.k a o n e), fun a n e z => g.n a (fun y => ?_) ?_ (g1.n a n e z), fun a z => g1.d a (g.d a z)⟩ ⟨by rw [List.length_set]; exact el, s.sub, fun {j d} e => ?_, fun {j m} e => ?_, fun {j k m n a} ne e1 e2 e3 e4 => ?_⟩ r
    · rcases z with z | z
      · exact n z
      · subst z; rw [hp] at e; cases e
    · rcases y with y | y
      · exact n y
      · subst y; exact e hp
    · cases e1 : H1 a with
      | none => exact absurd (g1.d a e1) e
      | some o => simp
    · have hj : j < ρ.length := by have := (List.getElem?_eq_some_iff.mp e).1; rw [List.length_set] at this; exact this
      obtain ⟨w, w1, w2⟩ := s.fr (i := j) (d := d) (by rw [List.set_append_left _ _ hi, List.getElem?_append_left (by rw [List.length_set]; exact hj)]; exact e)
      rw [List.getElem?_append_left (by rw [el]; exact hj)] at w1
      exact ⟨w, w1, w2⟩
    · have hj : j < ρ.length := by have := (List.getElem?_eq_some_iff.mp e).1; rw [List.length_set] at this; exact this
      obtain ⟨a, o, w1, w2, w3⟩ := s.mu (i := j) (m := m) (by rw [List.set_append_left _ _ hi, List.getElem?_append_left (by rw [List.length_set]; exact hj)]; exact e)
      rw [List.getElem?_append_left (by rw [el]; exact hj)] at w1
      refine ⟨a, o, w1, ?_, w3⟩
      rcases w2 with w2 | w2
      · exact w2
      · subst w2; exact absurd w1 (ap j m e)
    · have hj : j < ρ.length := by have := (List.getElem?_eq_some_iff.mp e1).1; rw [List.length_set] at this; exact this
      have hk : k < ρ.length := by have := (List.getElem?_eq_some_iff.mp e2).1; rw [List.length_set] at this; exact this
      exact s.apart (i := j) (j := k) (m := m) (n := n) (p := a) ne (by rw [List.set_append_left _ _ hi, List.getElem?_append_left (by rw [List.length_set]; exact hj)]; exact e1) (by rw [List.set_append_left _ _ hi, List.getElem?_append_left (by rw [List.length_set]; exact hk)]; exact e2)
        (by rw [List.getElem?_append_left (by rw [el]; exact hj)]; exact e3) (by rw [List.getElem?_append_left (by rw [el]; exact hk)]; exact e4))
  obtain ⟨x, ex, y, ey, key⟩ := key
  rw [List.getElem?_append_left hs, e0] at ex
  rw [← el, List.getElem?_append_right (Nat.le_refl _), Nat.sub_self] at ey
  cases ex
  cases ey
  exact key
def cutL {α : Type} (xs : List α) (lo hi : Option Int) : List α := (xs.drop (HT.sIx xs.length 0 lo)).take (HT.sIx xs.length xs.length hi - HT.sIx xs.length 0 lo)
theorem cut_map {α : Type} (f : α → D) (xs : List α) (lo hi : Option Int) : cutD (xs.map f) lo hi = (cutL xs lo hi).map f := by
  unfold cutD cutL
  rw [List.length_map, List.map_take, List.map_drop]
theorem cut_mem {α : Type} {xs : List α} {lo hi : Option Int} : ∀ x ∈ cutL xs lo hi, x ∈ xs := fun x h => List.mem_of_mem_drop (List.mem_of_mem_take h)
theorem cut_len {α : Type} {xs : List α} {lo hi : Option Int} : (cutL xs lo hi).length ≤ xs.length := by
  unfold cutL
  rw [List.length_take, List.length_drop]
  omega
end
namespace K01
def y_law_1 (K : PySem.W.Frag) (R_Space : Rel) (R_Space_cell : Rel) (R_Space_coordinates : Rel) (R_Space_parts : Rel) (Rx_Space_cell : Rel) (RX_Space_cell : RelX) (R__law_a_path : Rel) (R__law_box : Rel) (R__law_cells : Rel) (R__law_draw : Rel) (R__law_parts : Rel) (R__law_same : Rel) (R__law_wide : Rel) (C_CubeError : Addr) (C_NoSuchCell : Addr) (C_NoSuchName : Addr) (C_Space : Addr) (W : WX) : TS :=
  (tAsg (tMethX C_Space "cell" (SpX K Rx_Space_cell RX_Space_cell) W (tVar 2) (tCons (tVar 7) tNil)) (gName 12))
def u_law_1 (K : PySem.W.Frag) (R_Space : Rel) (R_Space_cell : Rel) (R_Space_coordinates : Rel) (R_Space_parts : Rel) (Rx_Space_cell : Rel) (RX_Space_cell : RelX) (R__law_a_path : Rel) (R__law_box : Rel) (R__law_cells : Rel) (R__law_draw : Rel) (R__law_parts : Rel) (R__law_same : Rel) (R__law_wide : Rel) (C_CubeError : Addr) (C_NoSuchCell : Addr) (C_NoSuchName : Addr) (C_Space : Addr) (a : Addr) (cls : Value) (d : Option Addr) : TS :=
  (tSeq (tAsg (tC (.bl true)) (gName 11))
      (tIfS (tOr (tNot (tB (tCB (rIsG K C_NoSuchCell a cls d) (tCons (tVar 13) (tCons (tC (.ref C_NoSuchCell)) tNil))))) (tB (tCB (rIsG K C_NoSuchCell a cls d) (tCons (tVar 13) (tCons (tC (.ref C_NoSuchName)) tNil))))) (tRet (tC (.bl false))) tNext))
def b_law_2 (K : PySem.W.Frag) (R_Space : Rel) (R_Space_cell : Rel) (R_Space_coordinates : Rel) (R_Space_parts : Rel) (Rx_Space_cell : Rel) (RX_Space_cell : RelX) (R__law_a_path : Rel) (R__law_box : Rel) (R__law_cells : Rel) (R__law_draw : Rel) (R__law_parts : Rel) (R__law_same : Rel) (R__law_wide : Rel) (C_CubeError : Addr) (C_NoSuchCell : Addr) (C_NoSuchName : Addr) (C_Space : Addr) : TS :=
  (tSeq (tAsg (tCB (rLstOf K) (tCons (tOp (rIx K) (tVar 3) (tCall (SpZ K R__law_draw) [] E0 (tCons (tVar 5) (tCons (tCB (rLenX K) (tCons (tVar 3) tNil)) tNil)))) tNil)) (gName 7))
      (tSeq (tAsg (tCall (SpZ K R__law_draw) [] E0 (tCons (tVar 5) (tCons (tCB (rLenX K) (tCons (tVar 7) tNil)) tNil))) (gName 8))
      (tSeq (tAsg (tCall (SpZ K R__law_draw) [] E0 (tCons (tVar 5) (tCons (tC (.int 4)) tNil))) (gName 9))
      (tSeq (tAsg (tCall (SpZ K R__law_a_path) [] E0 (tCons (tVar 5) (tCons (tVar 1) tNil))) (gName 10))
      (tSeq (tIfS (tTest (tOp rEq (tVar 9) (tC (.int 0)))) (tAsg (tOp rCat (tSl (rSlL K) (tVar 7) tNoPart (tPart (tVar 8))) (tSl (rSlL K) (tVar 7) (tPart (tOp rAddI (tVar 8) (tC (.int 1)))) tNoPart)) (gName 7)) (tIfS (tTest (tOp rEq (tVar 9) (tC (.int 1)))) (tAsg (tOp rCat (tOp rCat (tSl (rSlL K) (tVar 7) tNoPart (tPart (tVar 8))) (tLst (tCons (tVar 10) tNil))) (tSl (rSlL K) (tVar 7) (tPart (tVar 8)) tNoPart)) (gName 7)) (tAsg (tVar 10) (gSub (tVar 7) (tVar 8) rSetL))))
      (tSeq (tAsg (tCB (rTupOf K) (tCons (tVar 7) tNil)) (gName 7))
      (tSeq (tAsg (tC (.bl false)) (gName 11))
      (tSeq (tAsg (tC (.int 0)) (gName 12))
      (tSeq (tTry K (.ref C_CubeError) 13 (fun a cls d => u_law_1 K R_Space R_Space_cell R_Space_coordinates R_Space_parts Rx_Space_cell RX_Space_cell R__law_a_path R__law_box R__law_cells R__law_draw R__law_parts R__law_same R__law_wide C_CubeError C_NoSuchCell C_NoSuchName C_Space a cls d) (fun _ _ _ _ => False) (fun W => y_law_1 K R_Space R_Space_cell R_Space_coordinates R_Space_parts Rx_Space_cell RX_Space_cell R__law_a_path R__law_box R__law_cells R__law_draw R__law_parts R__law_same R__law_wide C_CubeError C_NoSuchCell C_NoSuchName C_Space W))
      (tIfS (tOr (tTest (tOp rNe (tVar 11) (tOp (rNotInD K) (tVar 7) (tVar 3)))) (tAnd (tNot (tTruth K (tVar 11))) (tTest (tOp rNe (tVar 12) (tBM K "list" (rIndexD K) (tVar 3) (tCons (tVar 7) tNil)))))) (tRet (tC (.bl false))) tNext))))))))))
def b_law_3 (K : PySem.W.Frag) (R_Space : Rel) (R_Space_cell : Rel) (R_Space_coordinates : Rel) (R_Space_parts : Rel) (Rx_Space_cell : Rel) (RX_Space_cell : RelX) (R__law_a_path : Rel) (R__law_box : Rel) (R__law_cells : Rel) (R__law_draw : Rel) (R__law_parts : Rel) (R__law_same : Rel) (R__law_wide : Rel) (C_CubeError : Addr) (C_NoSuchCell : Addr) (C_NoSuchName : Addr) (C_Space : Addr) : TS :=
  (tSeq (tIfS (tNot (tB (tCall (SpZ K R__law_same) [] E0 (tCons (tMeth C_Space "parts" (SpZ K R_Space_parts) [] E0 (tVar 2) (tCons (tVar 4) tNil)) (tCons (tCB (rTupOf K) (tCons (tCall (SpZ K R__law_parts) [] E0 (tCons (tVar 1) (tCons (tVar 4) tNil))) tNil)) tNil))))) (tRet (tC (.bl false))) tNext)
      (tIfS (tOr (tNot (tB (tCall (SpZ K R__law_same) [] E0 (tCons (tMeth C_Space "coordinates" (SpZ K R_Space_coordinates) [] E0 (tVar 2) (tCons (tVar 4) tNil)) (tCons (tOp (rIx K) (tVar 3) (tVar 4)) tNil))))) (tNot (tB (tCall (SpZ K R__law_same) [] E0 (tCons (tMeth C_Space "cell" (SpZ K R_Space_cell) [] E0 (tVar 2) (tCons (tOp (rIx K) (tVar 3) (tVar 4)) tNil)) (tCons (tVar 4) tNil)))))) (tRet (tC (.bl false))) tNext))
end K01
/-! ### cells as rows of numbers -/
section
variable {K : PySem.W.Frag} {C : Addr}
/-! ### the program's cells -/
def CCelX (C Ce : Addr) (R : Rel) (RX : RelX) : Prop := ∀ (ds : List Dm) (c : List Str), GoodDs ds → (∀ k : Nat, (celS ds)[k]? = some c → R ([spD C ds, celT c].map .fr) (.fr (.int (k : Int))) ([spD C ds, celT c].map .fr)) ∧ (c ∉ celS ds → RX ([spD C ds, celT c].map .fr) ⟨.ref Ce, none⟩ ([spD C ds, celT c].map .fr))
/-! ### the law's cells -/
end
end Z

set_option Elab.async false
set_option linter.all false
set_option maxRecDepth 100000
set_option maxHeartbeats 4000000
/-! Law03h: changed leaves are bounded. -/
namespace Z
open PySem PySem.Spec PyProof.Rows L2
open Evl (Ex Ex.refl Ex.trans Ex.new ex_rd ex_l ex_t sq_of st_of fresh_back sz_of sz_lt)
namespace K03
def e__law_changed_leaves_1 (K : PySem.W.Frag) (R__law_a_text : Rel) (R__law_draw : Rel) (R__law_word : Rel) : TE :=
  (tOp rCatS (tOp rCatS (tVar 8) (tC (.str "/"))) (tCall (SpZ K R__law_word) [] E0 (tCons (tVar 0) (tCons (tLst tNil) tNil))))
def e__law_changed_leaves_2 (K : PySem.W.Frag) (R__law_a_text : Rel) (R__law_draw : Rel) (R__law_word : Rel) : TE :=
  (tOp (rIx K) (tVar 7) (tVar 9))
def t__law_changed_leaves (K : PySem.W.Frag) (R__law_a_text : Rel) (R__law_draw : Rel) (R__law_word : Rel) : TS :=
  (tSeq (tAsg (tCB (rLstOf K) (tCons (tVar 1) tNil)) (gName 2))
      (tSeq (tAsg (tCall (SpZ K R__law_draw) [] E0 (tCons (tVar 0) (tCons (tCB (rLenX K) (tCons (tVar 2) tNil)) tNil))) (gName 3))
      (tSeq (tAsg (tCall (SpZ K R__law_draw) [] E0 (tCons (tVar 0) (tCons (tCB (rLenX K) (tCons (tVar 2) tNil)) tNil))) (gName 4))
      (tSeq (tAsg (tCall (SpZ K R__law_draw) [] E0 (tCons (tVar 0) (tCons (tC (.int 8)) tNil))) (gName 5))
      (tSeq (tIfS (tTest (tOp rEq (tVar 5) (tC (.int 0)))) (tAsg (tSl (rSlL K) (tVar 2) tNoPart (tPart (tC (.int 1)))) (gName 2)) (tIfS (tTest (tOp rEq (tVar 5) (tC (.int 1)))) (tSeq (tAsg (tOp (rIx K) (tVar 1) (tVar 4)) (gSub (tVar 2) (tVar 3) rSetL))
      (tAsg (tOp (rIx K) (tVar 1) (tVar 3)) (gSub (tVar 2) (tVar 4) rSetL))) (tIfS (tTest (tOp rEq (tVar 5) (tC (.int 2)))) (tAsg (tOp rCat (tOp rCat (tSl (rSlL K) (tVar 2) tNoPart (tPart (tVar 3))) (tLst (tCons (tOp (rIx K) (tVar 2) (tVar 3)) tNil))) (tSl (rSlL K) (tVar 2) (tPart (tVar 3)) tNoPart)) (gName 2)) (tIfS (tTest (tOp rEq (tVar 5) (tC (.int 3)))) (tAsg (tLc (iList K (tVar 2)) (gName 8) tYes (e__law_changed_leaves_1 K R__law_a_text R__law_draw R__law_word) [8]) (gName 2)) (tIfS (tTest (tOp rEq (tVar 5) (tC (.int 4)))) (tAsg (tOp rCatS (tOp rCatS (tOp (rIx K) (tVar 2) (tVar 3)) (tC (.str "/"))) (tCall (SpZ K R__law_word) [] E0 (tCons (tVar 0) (tCons (tLst tNil) tNil)))) (gSub (tVar 2) (tVar 3) rSetL)) (tIfS (tTest (tOp rEq (tVar 5) (tC (.int 5)))) (tSeq (tAsg (tM1 rSplit (tOp (rIx K) (tVar 2) (tVar 3)) (tC (.str "/"))) (gName 6))
      (tSeq (tAsg (tCall (SpZ K R__law_a_text) [] E0 (tCons (tVar 0) tNil)) (gSub (tVar 6) (tCall (SpZ K R__law_draw) [] E0 (tCons (tVar 0) (tCons (tCB (rLenX K) (tCons (tVar 6) tNil)) tNil))) rSetL))
      (tAsg (tM1 (rJoin K) (tC (.str "/")) (tVar 6)) (gSub (tVar 2) (tVar 3) rSetL)))) (tIfS (tTest (tOp rEq (tVar 5) (tC (.int 6)))) (tSeq (tAsg (tC (.str "abcdefghijklmnopqrstuvwxyz")) (gName 7))
      (tAsg (tLc (iRng1 (tCons (tOp rAddI (tC (.int 7)) (tCall (SpZ K R__law_draw) [] E0 (tCons (tVar 0) (tCons (tC (.int 4)) tNil)))) tNil)) (gName 9) tYes (e__law_changed_leaves_2 K R__law_a_text R__law_draw R__law_word) [9]) (gName 2))) (tAsg (tC (.str "")) (gSub (tVar 2) (tVar 3) rSetL)))))))))
      (tRet (tCB (rTupOf K) (tCons (tVar 2) tNil))))))))

theorem cut_drop {xs : List D} {m : Nat} (h : m ≤ xs.length) : cutD xs (some (m : Int)) none = xs.drop m := by
  unfold cutD
  have e1 : HT.sIx xs.length 0 (some (m : Int)) = m := by
    rw [HT.sIx_nat]
    omega
  have e2 : HT.sIx xs.length xs.length none = xs.length := rfl
  rw [e1, e2]
  exact List.take_of_length_le (by rw [List.length_drop]; exact Nat.le_refl _)
section
variable {K : PySem.W.Frag}
def CTxt (R : Rel) : Prop := ∀ b : List D, GoodBox b → ∃ (z : Str) (b' : List D), z.length ≤ 1000 ∧ GoodBox b' ∧ R [.own b] (.fr (.str z)) [.own b']
theorem txt_of {R : Rel} (h : Spec R PreText PostText) : CTxt R := fun b hb => by
  obtain ⟨r, cs', h1, z, b', a, g, rfl, rfl⟩ := h _ ⟨b, rfl, hb⟩
  exact ⟨z, b', a, g, h1⟩
/-- what may stand in changed leaves -/
structure ChOk (ls ls' : List Str) (B : Nat) : Prop where
  few : 1 ≤ ls'.length
  most : ls'.length ≤ ls.length + 10
  lf : ∀ p ∈ ls', p.length ≤ B + 1100
abbrev fr9 (b : List D) (ls rs : List Str) (a o k : Int) (c6 c7 c8 c9 : Cell) : Rho := [.own b, .fr (.tup (ls.map .str)), .own (rs.map .str), .fr (.int a), .fr (.int o), .fr (.int k), c6, c7, c8, c9]
theorem len_sl : (("/" : Str)).length = 1 := by decide
theorem str_at {ls : List Str} {i : Nat} (h : i < ls.length) : ∃ p, p ∈ ls ∧ (ls.map D.str)[i]? = some (.str p) ∧ ls[i]? = some p := ⟨ls[i], List.getElem_mem h, by rw [List.getElem?_map, List.getElem?_eq_getElem h]; rfl, List.getElem?_eq_getElem h⟩
theorem ch_comp {Ra Rd Rw : Rel} (hw : CWord Rw) {c1 c2 c3 c4 c5 c6 c7 c9 : Cell} : ∀ (rs : List Str) (b : List D) (B : Nat), GoodBox b → (∀ p ∈ rs, p.length ≤ B) → B ≤ 8000 → ∃ (rs' : List Str) (b' : List D), GoodBox b' ∧ rs'.length = rs.length ∧ (∀ p ∈ rs', p.length ≤ B + 1100) ∧
    CompZ K (gName 8) tYes (e__law_changed_leaves_1 K Ra Rd Rw) [8] [8] (rs.map D.str) [.own b, c1, c2, c3, c4, c5, c6, c7, .no, c9] (rs'.map D.str) [.own b', c1, c2, c3, c4, c5, c6, c7, .no, c9]
  | [], b, B, hb, h, hB => ⟨[], b, hb, rfl, (fun p hp => by cases hp), .nil⟩
  | r :: rs, b, B, hb, h, hB => by
    obtain ⟨w, b1, ⟨hb1, hwd, _⟩, hR⟩ := hw b [] hb (by decide)
    have hwl := word_len hwd
    have hr := h r List.mem_cons_self
    obtain ⟨rs', b', g, l, m, c⟩ := ch_comp (Ra := Ra) (Rd := Rd) hw rs b1 B hb1 (fun p hp => h p (List.mem_cons_of_mem _ hp)) hB
    have sl := len_sl
    refine ⟨(r ++ "/" ++ w) :: rs', b', g, by rw [List.length_cons, List.length_cons, l], fun p hp => ?_, .yes tg_name ts_yes (ev_catS (ev_catS (ev_var (i := 8) rfl) ev_str (by omega)) (ev_callMN (i := 0) rfl (en_lst ag_nil (by decide)) hR) (by rw [len_cat]; omega)) c⟩
    rcases List.mem_cons.mp hp with rfl | hp
    · rw [len_cat, len_cat]; omega
    · exact m p hp
theorem mk_comp {Ra Rd Rw : Rel} {c0 c1 c2 c3 c4 c5 c6 c8 : Cell} : ∀ (n m : Nat), m + n ≤ 26 → ∃ rs' : List Str, rs'.length = n ∧ (∀ p ∈ rs', p.length ≤ 1) ∧
    CompZ K (gName 9) tYes (e__law_changed_leaves_2 K Ra Rd Rw) [9] [9] (rangeD (m : Int) n) [c0, c1, c2, c3, c4, c5, c6, .fr (.str letS), c8, .no] (rs'.map D.str) [c0, c1, c2, c3, c4, c5, c6, .fr (.str letS), c8, .no]
  | 0, m, h => ⟨[], rfl, (fun p hp => by cases hp), .nil⟩
  | n + 1, m, h => by
    obtain ⟨rs', l, k, c⟩ := mk_comp (Ra := Ra) (Rd := Rd) (Rw := Rw) (c0 := c0) (c1 := c1) (c2 := c2) (c3 := c3) (c4 := c4) (c5 := c5) (c6 := c6) (c8 := c8) n (m + 1) (by omega)
    have hm : m < letS.cps.toList.length := by
      have := let_len
      omega
    rw [rangeD_cons]
    refine ⟨⟨#[letS.cps.toList[m]]⟩ :: rs', by rw [List.length_cons, l], fun p hp => ?_, .yes tg_name ts_yes (ev_ixS (c := letS.cps.toList[m]) (ev_var (i := 7) rfl) (ev_var (i := 9) rfl) (by decide) (atI_nat (List.getElem?_eq_getElem hm))) c⟩
    rcases List.mem_cons.mp hp with rfl | hp
    · exact Nat.le_refl 1
    · exact k p hp
theorem spl_sum : ∀ (l acc : List Nat), ((TL.spl [47] 0 acc l).map List.length).sum + (TL.spl [47] 0 acc l).length = acc.length + l.length + 1
  | [], acc => by rw [TL.spl_nil]; simp
  | c :: r, acc => by
    by_cases h : c = 47
    · subst h
      have e : TL.spl [47] 0 acc (47 :: r) = acc :: TL.spl [47] 0 [] r := TL.spl_hit rfl
      have ih := spl_sum r []
      rw [e, List.map_cons, List.sum_cons, List.length_cons, List.length_cons]
      rw [List.length_nil] at ih
      omega
    · have p : TL.pre [47] (c :: r) = false := by
        show ([c] == [47]) = false
        rw [beq_eq_false_iff_ne]
        intro z
        exact h (List.cons.inj z).1
      have ih := spl_sum r (acc ++ [c])
      rw [TL.spl_miss p, ih, List.length_append, List.length_singleton, List.length_cons]
      omega
theorem split_sum (z : Str) : ((Txt.split z slS).map (·.length)).sum + (Txt.split z slS).length = z.length + 1 := by
  have e := split_map z
  have q := spl_sum (TL.tl z) []
  rw [← e, List.length_map, List.map_map] at q
  have f : (List.length ∘ TL.tl) = fun w : Str => w.length := funext fun w => (TL.len_tl w).symm
  rw [f, List.length_nil, ← TL.len_tl z] at q
  omega
theorem sum_set : ∀ (l : List Str) (j : Nat) (z : Str), ((l.set j z).map (·.length)).sum ≤ (l.map (·.length)).sum + z.length
  | [], j, z => by simp
  | x :: l, 0, z => by
    rw [List.set_cons_zero, List.map_cons, List.map_cons, List.sum_cons, List.sum_cons]
    omega
  | x :: l, j + 1, z => by
    have := sum_set l j z
    rw [List.set_cons_succ, List.map_cons, List.map_cons, List.sum_cons, List.sum_cons]
    omega
theorem mem_set {ls : List Str} {i : Nat} {z p : Str} (h : p ∈ ls.set i z) : p ∈ ls ∨ p = z := List.mem_or_eq_of_mem_set h
def CChl (R : Rel) : Prop := ∀ (b : List D) (ls : List Str) (B : Nat), GoodBox b → 1 ≤ ls.length → ls.length ≤ 60 → (∀ p ∈ ls, p.length ≤ B) → B ≤ 3000 →
  ∃ (ls' : List Str) (b' : List D), GoodBox b' ∧ ChOk ls ls' B ∧ R (.own b :: [.tup (ls.map .str)].map .fr) (.fr (.tup (ls'.map .str))) (.own b' :: [.tup (ls.map .str)].map .fr)
theorem rel_chl {Ra Rd Rw : Rel} (ha : CTxt Ra) (hd : Spec Rd PreDraw PostDraw) (hw : CWord Rw) : CChl (RelOf K [0] (t__law_changed_leaves K Ra Rd Rw) 10 2) := fun b ls B hb l1 l60 lB hB => by
  have lm : (ls.map D.str).length = ls.length := List.length_map ..
  have s1 : ExZ K [0] (tAsg (tCB (rLstOf K) (tCons (tVar 1) tNil)) (gName 2)) [.own b, .fr (.tup (ls.map .str)), .no, .no, .no, .no, .no, .no, .no, .no] (.nx [.own b, .fr (.tup (ls.map .str)), .own (ls.map .str), .no, .no, .no, .no, .no, .no, .no]) := ex_setN (i := 2) (en_lstT (ev_var (i := 1) rfl)) .refl (by decide)
  obtain ⟨v1, b1, p1, q1, hb1, he1⟩ := ev_draw (K := K) hd (i := 0) (ρ := [.own b, .fr (.tup (ls.map .str)), .own (ls.map .str), .no, .no, .no, .no, .no, .no, .no]) rfl (ev_lenL (ds := ls.map .str) (rd_own (i := 2) rfl)) rfl hb (by rw [lm]; omega)
  obtain ⟨a, rfl⟩ := Int.eq_ofNat_of_zero_le p1
  obtain ⟨v2, b2, p2, q2, hb2, he2⟩ := ev_draw (K := K) hd (i := 0) (ρ := [.own b1, .fr (.tup (ls.map .str)), .own (ls.map .str), .fr (.int (a : Int)), .no, .no, .no, .no, .no, .no]) rfl (ev_lenL (ds := ls.map .str) (rd_own (i := 2) rfl)) rfl hb1 (by rw [lm]; omega)
  obtain ⟨o, rfl⟩ := Int.eq_ofNat_of_zero_le p2
  obtain ⟨k, b3, p3, q3, hb3, he3⟩ := ev_draw (K := K) hd (i := 0) (ρ := [.own b2, .fr (.tup (ls.map .str)), .own (ls.map .str), .fr (.int (a : Int)), .fr (.int (o : Int)), .no, .no, .no, .no, .no]) rfl (ev_int (i := 8)) rfl hb2 (by decide)
  rw [lm] at q1 q2
  have ha' : a < ls.length := by omega
  have ho' : o < ls.length := by omega
  obtain ⟨x, mx, ex, ex'⟩ := str_at ha'
  obtain ⟨y, my, ey, ey'⟩ := str_at ho'
  have lx := lB x mx
  have ly := lB y my
  have sl1 := len_sl
  have s2 := ex_set (S := [0]) (i := 3) he1 (by decide)
  have s3 := ex_set (S := [0]) (i := 4) he2 (by decide)
  have s4 := ex_set (S := [0]) (i := 5) he3 (by decide)
  have t : ∀ n : Int, TsZ K (tTest (tOp rEq (tVar 5) (tC (.int n)))) (fr9 b3 ls ls a o k .no .no .no .no) (fr9 b3 ls ls a o k .no .no .no .no) (decide (k = n)) := fun n => ts_test (ev_eqI (ev_var (i := 5) rfl) ev_int)
  have main : ∃ (ls' : List Str) (b' : List D) (c6 c7 c8 c9 : Cell), GoodBox b' ∧ ChOk ls ls' B ∧ ∃ ts, ExZ K [0] ts (fr9 b3 ls ls a o k .no .no .no .no) (.nx (fr9 b' ls ls' a o k c6 c7 c8 c9)) ∧
      t__law_changed_leaves K Ra Rd Rw = tSeq (tAsg (tCB (rLstOf K) (tCons (tVar 1) tNil)) (gName 2)) (tSeq (tAsg (tCall (SpZ K Rd) [] E0 (tCons (tVar 0) (tCons (tCB (rLenX K) (tCons (tVar 2) tNil)) tNil))) (gName 3)) (tSeq (tAsg (tCall (SpZ K Rd) [] E0 (tCons (tVar 0) (tCons (tCB (rLenX K) (tCons (tVar 2) tNil)) tNil))) (gName 4)) (tSeq (tAsg (tCall (SpZ K Rd) [] E0 (tCons (tVar 0) (tCons (tC (.int 8)) tNil))) (gName 5)) (tSeq ts (tRet (tCB (rTupOf K) (tCons (tVar 2) tNil))))))) := by
    by_cases k0 : k = 0
    · refine ⟨ls.take 1, b3, _, _, _, _, hb3, ⟨by rw [List.length_take]; omega, by rw [List.length_take]; omega, fun p hp => Nat.le_trans (lB p (List.mem_of_mem_take hp)) (by omega)⟩, _, ex_ifT (ts_is (t 0) (decide_eq_true k0)) (ex_freeze (i := 2) (ds := ls.map .str) rfl (ex_setN (i := 2) ?_ .refl (by decide))), rfl⟩
      have q := en_slZ (K := K) (te := tVar 2) (ρ := [.own b3, .fr (.tup (ls.map .str)), .fr (.lst (ls.map .str)), .fr (.int (a : Int)), .fr (.int (o : Int)), .fr (.int k), .no, .no, .no, .no]) (ev_var (i := 2) (d := .lst (ls.map .str)) rfl) poz_none (poz_some (ev_int (i := ((1 : Nat) : Int))))
      rw [cut_take (by rw [lm]; omega), ← List.map_take] at q
      exact q
    by_cases k1 : k = 1
    · have u1 := ex_setAt (K := K) (S := [0]) (i := 2) (j := a) (ρ := fr9 b3 ls ls a o k .no .no .no .no) (d := .str y) (ev_ixT (ds := ls.map D.str) (ev_var (i := 1) rfl) (ev_var (i := 4) rfl) (at_nat ey)) (ev_var (i := 3) rfl) rfl rfl (ixN_nat (by rw [lm]; omega))
      rw [← List.map_set] at u1
      have u2 := ex_setAt (K := K) (S := [0]) (i := 2) (j := o) (ρ := fr9 b3 ls (ls.set a y) a o k .no .no .no .no) (d := .str x) (ev_ixT (ds := ls.map D.str) (ev_var (i := 1) rfl) (ev_var (i := 3) rfl) (at_nat ex)) (ev_var (i := 4) rfl) rfl rfl (ixN_nat (by rw [List.length_map, List.length_set]; omega))
      rw [← List.map_set] at u2
      refine ⟨(ls.set a y).set o x, b3, _, _, _, _, hb3, ⟨by rw [List.length_set, List.length_set]; omega, by rw [List.length_set, List.length_set]; omega, fun p hp => ?_⟩, _, ex_ifF (ts_is (t 0) (decide_eq_false k0)) (ex_ifT (ts_is (t 1) (decide_eq_true k1)) (ex_seq u1 u2)), rfl⟩
      rcases mem_set hp with hp | rfl
      · rcases mem_set hp with hp | rfl
        · have := lB p hp; omega
        · omega
      · omega
    by_cases k2 : k = 2
    · refine ⟨ls.take a ++ [x] ++ ls.drop a, b3, _, _, _, _, hb3, ⟨by simp; omega, by simp; omega, fun p hp => ?_⟩, _, ex_ifF (ts_is (t 0) (decide_eq_false k0)) (ex_ifF (ts_is (t 1) (decide_eq_false k1)) (ex_ifT (ts_is (t 2) (decide_eq_true k2)) (ex_freeze (i := 2) (ds := ls.map .str) rfl (ex_setN (i := 2) ?_ .refl (by decide))))), rfl⟩
      · rcases List.mem_append.mp hp with hp | hp
        · rcases List.mem_append.mp hp with hp | hp
          · have := lB p (List.mem_of_mem_take hp); omega
          · rw [List.mem_singleton.mp hp]; omega
        · have := lB p (List.mem_of_mem_drop hp); omega
      have w1 := en_slZ (K := K) (te := tVar 2) (ρ := [.own b3, .fr (.tup (ls.map .str)), .fr (.lst (ls.map .str)), .fr (.int (a : Int)), .fr (.int (o : Int)), .fr (.int k), .no, .no, .no, .no]) (ev_var (i := 2) (d := .lst (ls.map .str)) rfl) poz_none (poz_some (ev_var (i := 3) (d := .int (a : Int)) rfl))
      have w2 := en_slZ (K := K) (te := tVar 2) (ρ := [.own b3, .fr (.tup (ls.map .str)), .fr (.lst (ls.map .str)), .fr (.int (a : Int)), .fr (.int (o : Int)), .fr (.int k), .no, .no, .no, .no]) (ev_var (i := 2) (d := .lst (ls.map .str)) rfl) (poz_some (ev_var (i := 3) (d := .int (a : Int)) rfl)) poz_none
      rw [cut_take (by rw [lm]; omega), ← List.map_take] at w1
      rw [cut_drop (by rw [lm]; omega), ← List.map_drop] at w2
      rw [List.map_append, List.map_append]
      exact en_cat (en_cat w1 .refl (en_lst (ag_cons (ev_ixL (ds := ls.map D.str) (ev_var (i := 2) rfl) (ev_var (i := 3) rfl) (at_nat ex)) ag_nil) (by show 1 ≤ 100000; decide)) (by simp; omega)) .refl w2 (by simp; omega)
    by_cases k3 : k = 3
    · obtain ⟨rs', b4, g4, l4, m4, c4⟩ := ch_comp (K := K) (Ra := Ra) (Rd := Rd) hw (c1 := .fr (.tup (ls.map .str))) (c2 := .fr (.lst (ls.map .str))) (c3 := .fr (.int (a : Int))) (c4 := .fr (.int (o : Int))) (c5 := .fr (.int k)) (c6 := .no) (c7 := .no) (c9 := .no) ls b3 B hb3 lB (by omega)
      exact ⟨rs', b4, _, _, _, _, g4, ⟨by omega, by omega, m4⟩, _, ex_ifF (ts_is (t 0) (decide_eq_false k0)) (ex_ifF (ts_is (t 1) (decide_eq_false k1)) (ex_ifF (ts_is (t 2) (decide_eq_false k2)) (ex_ifT (ts_is (t 3) (decide_eq_true k3)) (ex_freeze (i := 2) (ds := ls.map .str) rfl (ex_setN (i := 2) (en_lc (it_list (ev_var (i := 2) rfl)) c4 (by decide) (by rw [lm]; omega)) (OwnIn.set (ρ := [.own b3, .fr (.tup (ls.map .str)), .fr (.lst (ls.map .str)), .fr (.int (a : Int)), .fr (.int (o : Int)), .fr (.int k), .no, .no, .no, .no]) (i := 0) (fs := .lst b3) (gs := .lst b4) rfl) (by decide)))))), rfl⟩
    by_cases k4 : k = 4
    · obtain ⟨w, b4, ⟨hb4, hwd, _⟩, hR⟩ := hw b3 [] hb3 (by decide)
      have hwl := word_len hwd
      have u1 := ex_setAt (K := K) (S := [0]) (i := 2) (j := a) (ρ := fr9 b3 ls ls a o k .no .no .no .no) (d := .str (x ++ "/" ++ w)) (ev_catS (ev_catS (ev_ixO (i := 2) (es := ls.map .str) (ds := ls.map .str) rfl (ev_var (i := 3) rfl) rfl (at_nat ex)) ev_str (by omega)) (ev_callMN (X := E0) (i := 0) rfl (en_lst ag_nil (by decide)) hR) (by rw [len_cat]; omega)) (ev_var (i := 3) rfl) rfl rfl (ixN_nat (by rw [lm]; omega))
      rw [← List.map_set] at u1
      refine ⟨ls.set a (x ++ "/" ++ w), b4, _, _, _, _, hb4, ⟨by rw [List.length_set]; omega, by rw [List.length_set]; omega, fun p hp => ?_⟩, _, ex_ifF (ts_is (t 0) (decide_eq_false k0)) (ex_ifF (ts_is (t 1) (decide_eq_false k1)) (ex_ifF (ts_is (t 2) (decide_eq_false k2)) (ex_ifF (ts_is (t 3) (decide_eq_false k3)) (ex_ifT (ts_is (t 4) (decide_eq_true k4)) u1)))), rfl⟩
      rcases mem_set hp with hp | rfl
      · have := lB p hp; omega
      · rw [len_cat, len_cat]; omega
    by_cases k5 : k = 5
    · have sp := split_len x
      have sm := split_sum x
      have n0 : (Txt.split x slS) ≠ [] := fun z => by
        have := (spl_all (TL.tl x) []).1
        rw [← split_map, z] at this
        exact this rfl
      have n1 := List.length_pos_iff.mpr n0
      obtain ⟨z, b4, lz, hb4, hR⟩ := ha b3 hb3
      have lw : ((Txt.split x slS).map D.str).length = (Txt.split x slS).length := List.length_map ..
      have u1 := ex_setN (K := K) (S := [0]) (i := 6) (ρ := fr9 b3 ls ls a o k .no .no .no .no) (en_split (ev_ixO (i := 2) (es := ls.map .str) (ds := ls.map .str) rfl (ev_var (i := 3) rfl) rfl (at_nat ex)) (b := slS) ev_str (by decide +kernel) (by omega)) .refl (by decide)
      obtain ⟨v5, b5, p5, q5, hb5, he5⟩ := ev_draw (K := K) hd (i := 0) (ρ := [.own b4, .fr (.tup (ls.map .str)), .own (ls.map .str), .fr (.int (a : Int)), .fr (.int (o : Int)), .fr (.int k), .own ((Txt.split x slS).map .str), .no, .no, .no]) rfl (ev_lenL (ds := (Txt.split x slS).map .str) (rd_own (i := 6) rfl)) rfl hb4 (by rw [lw]; omega)
      obtain ⟨j, rfl⟩ := Int.eq_ofNat_of_zero_le p5
      rw [lw] at q5
      have u2 := ex_setAt (K := K) (S := [0]) (i := 6) (j := j) (es := (Txt.split x slS).map .str) (ds := (Txt.split x slS).map .str) (ρ := [.own b3, .fr (.tup (ls.map .str)), .own (ls.map .str), .fr (.int (a : Int)), .fr (.int (o : Int)), .fr (.int k), .own ((Txt.split x slS).map .str), .no, .no, .no]) (ev_callB (X := E0) (ds := []) (i := 0) rfl ag_nil rfl hR) he5 rfl rfl (ixN_nat (by rw [lw]; omega))
      rw [← List.map_set] at u2
      have ss := sum_set (Txt.split x slS) j z
      have u3 := ex_setAt (K := K) (S := [0]) (i := 2) (j := a) (es := ls.map .str) (ds := ls.map .str) (ρ := [.own b5, .fr (.tup (ls.map .str)), .own (ls.map .str), .fr (.int (a : Int)), .fr (.int (o : Int)), .fr (.int k), .own (((Txt.split x slS).set j z).map .str), .no, .no, .no]) (d := .str (Txt.join "/" ((Txt.split x slS).set j z))) (ev_join (zs := (Txt.split x slS).set j z) ev_str (rd_own (i := 6) rfl) (by rw [List.length_set, sl1]; omega)) (ev_var (i := 3) rfl) rfl rfl (ixN_nat (by rw [lm]; omega))
      rw [← List.map_set] at u3
      have lj : (Txt.join "/" ((Txt.split x slS).set j z)).length ≤ B + 1100 := by
        rw [TL.join_eq]
        refine Nat.le_trans (StrLaws.join_length_le _ _) ?_
        rw [List.length_set, sl1]
        omega
      refine ⟨ls.set a (Txt.join "/" ((Txt.split x slS).set j z)), b5, _, _, _, _, hb5, ⟨by rw [List.length_set]; omega, by rw [List.length_set]; omega, fun p hp => ?_⟩, _, ex_ifF (ts_is (t 0) (decide_eq_false k0)) (ex_ifF (ts_is (t 1) (decide_eq_false k1)) (ex_ifF (ts_is (t 2) (decide_eq_false k2)) (ex_ifF (ts_is (t 3) (decide_eq_false k3)) (ex_ifF (ts_is (t 4) (decide_eq_false k4)) (ex_ifT (ts_is (t 5) (decide_eq_true k5)) (ex_seq u1 (ex_seq u2 u3))))))), rfl⟩
      rcases mem_set hp with hp | rfl
      · have := lB p hp; omega
      · exact lj
    by_cases k6 : k = 6
    · obtain ⟨v6, b6, p6, q6, hb6, he6⟩ := ev_draw (K := K) hd (i := 0) (ρ := [.own b3, .fr (.tup (ls.map .str)), .own (ls.map .str), .fr (.int (a : Int)), .fr (.int (o : Int)), .fr (.int k), .no, .fr (.str letS), .no, .no]) rfl (ev_int (i := 4)) rfl hb3 (by decide)
      obtain ⟨n, rfl⟩ := Int.eq_ofNat_of_zero_le p6
      obtain ⟨rs', l', k', c'⟩ := mk_comp (K := K) (Ra := Ra) (Rd := Rd) (Rw := Rw) (c0 := .own b6) (c1 := .fr (.tup (ls.map .str))) (c2 := .own (ls.map .str)) (c3 := .fr (.int (a : Int))) (c4 := .fr (.int (o : Int))) (c5 := .fr (.int k)) (c6 := .no) (c8 := .no) (7 + n) 0 (by omega)
      have u1 : ExZ K [0] (tAsg (tC (.str "abcdefghijklmnopqrstuvwxyz")) (gName 7)) (fr9 b3 ls ls a o k .no .no .no .no) (.nx (fr9 b3 ls ls a o k .no (.fr (.str letS)) .no .no)) := ex_set (S := [0]) (i := 7) (ev_str (i := letS)) (by decide)
      have e7 : (7 : Int) + (n : Int) = ((7 + n : Nat) : Int) := by omega
      have it : ItZ K (iRng1 (tCons (tOp rAddI (tC (.int 7)) (tCall (SpZ K Rd) [] E0 (tCons (tVar 0) (tCons (tC (.int 4)) tNil)))) tNil)) (fr9 b3 ls ls a o k .no (.fr (.str letS)) .no .no) (fr9 b6 ls ls a o k .no (.fr (.str letS)) .no .no) (rangeD 0 (7 + n)) := by
        have z := it_range1 (K := K) (n := (7 : Int) + (n : Int)) (ag_cons (ev_add ev_int he6) ag_nil) ⟨by omega, by omega⟩
        rw [e7, Int.toNat_natCast] at z
        exact z
      exact ⟨rs', b6, _, _, _, _, hb6, ⟨by omega, by omega, fun p hp => by have := k' p hp; omega⟩, _, ex_ifF (ts_is (t 0) (decide_eq_false k0)) (ex_ifF (ts_is (t 1) (decide_eq_false k1)) (ex_ifF (ts_is (t 2) (decide_eq_false k2)) (ex_ifF (ts_is (t 3) (decide_eq_false k3)) (ex_ifF (ts_is (t 4) (decide_eq_false k4)) (ex_ifF (ts_is (t 5) (decide_eq_false k5)) (ex_ifT (ts_is (t 6) (decide_eq_true k6)) (ex_seq u1 (ex_setN (i := 2) (en_lc it c' (by decide) (by rw [rangeD_len]; omega)) (OwnIn.set (ρ := fr9 b3 ls ls a o k .no (.fr (.str letS)) .no .no) (i := 0) (fs := .lst b3) (gs := .lst b6) rfl) (by decide))))))))), rfl⟩
    · have u1 := ex_setAt (K := K) (S := [0]) (i := 2) (j := a) (es := ls.map .str) (ds := ls.map .str) (ρ := fr9 b3 ls ls a o k .no .no .no .no) (d := .str "") ev_str (ev_var (i := 3) rfl) rfl rfl (ixN_nat (by rw [lm]; omega))
      rw [← List.map_set] at u1
      refine ⟨ls.set a "", b3, _, _, _, _, hb3, ⟨by rw [List.length_set]; omega, by rw [List.length_set]; omega, fun p hp => ?_⟩, _, ex_ifF (ts_is (t 0) (decide_eq_false k0)) (ex_ifF (ts_is (t 1) (decide_eq_false k1)) (ex_ifF (ts_is (t 2) (decide_eq_false k2)) (ex_ifF (ts_is (t 3) (decide_eq_false k3)) (ex_ifF (ts_is (t 4) (decide_eq_false k4)) (ex_ifF (ts_is (t 5) (decide_eq_false k5)) (ex_ifF (ts_is (t 6) (decide_eq_false k6)) u1)))))), rfl⟩
      rcases mem_set hp with hp | rfl
      · have := lB p hp; omega
      · show 0 ≤ _; omega
  obtain ⟨ls', b', c6, c7, c8, c9, g1, g2, ts, x1, x2⟩ := main
  rw [x2]
  exact ⟨ls', b', g1, g2, rfl, _, .inl (ex_seq s1 (ex_seq s2 (ex_seq s3 (ex_seq s4 (ex_seq x1 (ex_ret (ev_tupO (i := 2) rfl))))))), fin_box (ds := [.tup (ls.map .str)]) (by decide) rfl⟩
end
end K03
end Z

set_option Elab.async false
set_option linter.all false
set_option maxRecDepth 100000
set_option maxHeartbeats 2000000
/-! Law01b: the law k01: strange coordinates, the law. -/
namespace Z
open PySem PySem.Spec PyProof.Rows L2
open Evl (Ex Ex.refl Ex.trans Ex.new ex_rd ex_l ex_t sq_of st_of fresh_back sz_of sz_lt)
section
variable {K : PySem.W.Frag} {C : Addr}
def CPath (R : Rel) : Prop := ∀ (b : List D) (ds : List Dm), GoodBox b → GoodDs ds → ∃ (p : Str) (b' : List D), GoodBox b' ∧ (StrOk p ∧ p.length ≤ 200) ∧ R (.own b :: [dimsD ds].map .fr) (.fr (.str p)) (.own b' :: [dimsD ds].map .fr)
end
end Z

set_option Elab.async false
set_option linter.all false
set_option maxRecDepth 100000
set_option maxHeartbeats 2000000
/-! LawX: dimensions and vectors of laws with fractions. -/
namespace Z
open PySem PySem.Spec PyProof.Rows L2
open Evl (Ex Ex.refl Ex.trans Ex.new ex_rd ex_l ex_t sq_of st_of fresh_back sz_of sz_lt)
namespace K22
section
variable {K : PySem.W.Frag} {Rb Rd Rl Rw : Rel}
/-! ### _law_dimensions -/
/-! ### _law_a_fraction, _law_a_vector -/
end
end K22
end Z

set_option Elab.async false
set_option linter.all false
set_option maxRecDepth 100000
set_option maxHeartbeats 2000000
/-! Law22: the law k22: projections of a vector onto a grouping. -/
namespace Z
open PySem PySem.Spec PyProof.Rows L2
open Evl (Ex Ex.refl Ex.trans Ex.new ex_rd ex_l ex_t sq_of st_of fresh_back sz_of sz_lt)
namespace K22
section
variable {K : PySem.W.Frag} {Rsp Rag Rav Rb Rwd Rme Rs Rpr : Rel} {C : Addr}
end
end K22
end Z

set_option Elab.async false
set_option linter.all false
set_option maxRecDepth 100000
set_option maxHeartbeats 2000000
/-! LawY: a projection of a projection is the projection onto the meet. -/
namespace Z
open PySem PySem.Spec PyProof.Rows L2
section
variable {α β : Type}
end
/-! ### one dimension -/
/-! ### all dimensions -/
/-! ### fractions -/
def val (p : Fra) : Rat := (p.1 : Rat) / (p.2 : Rat)
theorem ne_cast {b : Int} (h : b ≠ 0) : (b : Rat) ≠ 0 := by simpa using h
theorem val_eq {t b t' b' : Int} (hb : 0 < b) (hb' : 0 < b') (h : t * b' = t' * b) : (t : Rat) / (b : Rat) = (t' : Rat) / (b' : Rat) := by
  have n1 := ne_cast (b := b) (by omega)
  have n2 := ne_cast (b := b') (by omega)
  have e : ((t * b' : Int) : Rat) = ((t' * b : Int) : Rat) := by rw [h]
  rw [Rat.intCast_mul, Rat.intCast_mul] at e
  grind
theorem eq_val {t b t' b' : Int} (hb : 0 < b) (hb' : 0 < b') (h : (t : Rat) / (b : Rat) = (t' : Rat) / (b' : Rat)) : t * b' = t' * b := by
  have n1 := ne_cast (b := b) (by omega)
  have n2 := ne_cast (b := b') (by omega)
  have e : ((t * b' : Int) : Rat) = ((t' * b : Int) : Rat) := by
    rw [Rat.intCast_mul, Rat.intCast_mul]
    grind
  exact Rat.intCast_inj.mp e
theorem val_FR {t b : Int} (hb : 0 < b) : val (FR t b) = (t : Rat) / (b : Rat) := val_eq (by have := FR_pos (t := t) (b := b) (by omega); omega) hb (FR_val hb)
theorem val_plus {p q : Fra} (hp : 1 ≤ p.2) (hq : 1 ≤ q.2) : val (fPlus p q) = val p + val q := by
  unfold fPlus
  rw [val_FR (Int.mul_pos (by omega) (by omega))]
  unfold val
  have n1 := ne_cast (b := p.2) (by omega)
  have n2 := ne_cast (b := q.2) (by omega)
  simp only [Rat.intCast_add, Rat.intCast_mul]
  grind
theorem low_eq {p q : Fra} (hp : Low p) (hq : Low q) (h : val p = val q) : p = q := by
  rw [← hp.2, ← hq.2]
  have := hp.1
  have := hq.1
  exact FR_congr (by omega) (by omega) (eq_val (by omega) (by omega) h)
end Z

set_option Elab.async false
set_option linter.all false
set_option maxRecDepth 100000
set_option maxHeartbeats 2000000
/-! Law23: the law k23: projections onto two groupings. -/
namespace Z
open PySem PySem.Spec PyProof.Rows L2
open Evl (Ex Ex.refl Ex.trans Ex.new ex_rd ex_l ex_t sq_of st_of fresh_back sz_of sz_lt)
namespace K23
section
variable {K : PySem.W.Frag} {ρ : Rho} {te : TE} {Rsp Rag Rav Rb Rwd Rme Rs Rpr : Rel} {C : Addr}
end
end K23
end Z

set_option Elab.async false
set_option linter.all false
set_option maxRecDepth 100000
set_option maxHeartbeats 2000000
/-! LawQ: components of vectors, told over rational functions of cells: they add up, and different ones are orthogonal. -/
namespace Z
open PySem PySem.Spec PyProof.Rows L2
abbrev Fn := CellW → Rat
def EqC (ds : List Dm) (f g : Fn) : Prop := ∀ i ∈ cellsR ds, f i = g i
section
variable {ds : List Dm} (gd : GoodDs ds)
include gd
def deps (ds : List Dm) : List Nat := ds.map Dm.dep
/-! ### one dimension -/
def alone (ds : List Dm) (k l : Nat) : List Nat := (deps ds).set k l
/-! ### all dimensions, from one on -/
/-! ### orthogonal -/
end
end Z

set_option Elab.async false
set_option linter.all false
set_option maxRecDepth 100000
set_option maxHeartbeats 2000000
/-! LawQ2: vectors of fractions with one denominator: their sums, projections, components stay small. -/
namespace Z
open PySem PySem.Spec PyProof.Rows L2
def VecQ (ds : List Dm) (Q : Int) (m : Nat) (ps : List Fra) (f : Fn) : Prop :=
  0 < Q ∧ ∃ n : CellW → Int, ps = (cellsR ds).map (fun c => FR (n c) Q) ∧ (∀ c ∈ cellsR ds, Bd m (n c)) ∧ ∀ c ∈ cellsR ds, f c = (n c : Rat) / (Q : Rat)
section
variable {ds : List Dm} {Q : Int} {m : Nat} {ps qs : List Fra} {f h : Fn}
theorem VecQ.low (v : VecQ ds Q m ps f) : ∀ p ∈ ps, Low p := fun p hp => by
  obtain ⟨hQ, n, e, _⟩ := v
  rw [e] at hp
  obtain ⟨c, _, rfl⟩ := List.mem_map.mp hp
  exact FR_low hQ
theorem VecQ.ok (v : VecQ ds Q m ps f) {r e : Nat} (hr : Bd r Q) (h1 : r ≤ e) (h2 : m ≤ e) : ∀ p ∈ ps, FraOk e p := fun p hp => by
  obtain ⟨hQ, n, e1, hb, _⟩ := v
  rw [e1] at hp
  obtain ⟨c, hc, rfl⟩ := List.mem_map.mp hp
  have ne : Q ≠ 0 := by omega
  exact ⟨(FR_bd1 ne (hb c hc)).mono h2, (FR_bd2 ne hr).mono h1, FR_pos ne⟩
theorem VecQ.fn (v : VecQ ds Q m ps f) (e : EqC ds f h) : VecQ ds Q m ps h := by
  obtain ⟨hQ, n, e1, hb, hf⟩ := v
  exact ⟨hQ, n, e1, hb, fun c hc => (e c hc).symm.trans (hf c hc)⟩
theorem zipWith_maps {α β γ δ : Type} (g : β → γ → δ) (a : α → β) (b : α → γ) : ∀ l : List α, List.zipWith g (l.map a) (l.map b) = l.map fun x => g (a x) (b x)
  | [] => rfl
  | x :: l => by rw [List.map_cons, List.map_cons, List.zipWith_cons_cons, zipWith_maps g a b l, List.map_cons]
theorem plus_FR {a b Q : Int} (hQ : 0 < Q) : fPlus (FR a Q) (FR b Q) = FR (a + b) Q := by
  have l1 := FR_low (t := a) hQ
  have l2 := FR_low (t := b) hQ
  refine low_eq (fPlus_low l1.1 l2.1) (FR_low hQ) ?_
  rw [val_plus l1.1 l2.1, val_FR hQ, val_FR hQ, val_FR hQ, Rat.intCast_add]
  have := ne_cast (b := Q) (by omega)
  grind
theorem fMinus_low {p q : Fra} (hp : 1 ≤ p.2) (hq : 1 ≤ q.2) : Low (fMinus p q) := FR_low (Int.mul_pos (by omega) (by omega))
theorem val_minus {p q : Fra} (hp : 1 ≤ p.2) (hq : 1 ≤ q.2) : val (fMinus p q) = val p - val q := by
  unfold fMinus
  rw [val_FR (Int.mul_pos (by omega) (by omega))]
  unfold val
  have n1 := ne_cast (b := p.2) (by omega)
  have n2 := ne_cast (b := q.2) (by omega)
  simp only [Rat.intCast_sub, Rat.intCast_mul]
  grind
theorem minus_FR {a b Q : Int} (hQ : 0 < Q) : fMinus (FR a Q) (FR b Q) = FR (a - b) Q := by
  have l1 := FR_low (t := a) hQ
  have l2 := FR_low (t := b) hQ
  refine low_eq (fMinus_low l1.1 l2.1) (FR_low hQ) ?_
  rw [val_minus l1.1 l2.1, val_FR hQ, val_FR hQ, val_FR hQ, Rat.intCast_sub]
  have := ne_cast (b := Q) (by omega)
  grind
theorem VecQ.plus {m : Nat} (v : VecQ ds Q m ps f) (w : VecQ ds Q m qs h) : VecQ ds Q (m + 1) (List.zipWith fPlus ps qs) (fun c => f c + h c) := by
  obtain ⟨hQ, n, e1, hb, hf⟩ := v
  obtain ⟨_, n', e1', hb', hf'⟩ := w
  refine ⟨hQ, fun c => n c + n' c, ?_, fun c hc => (hb c hc).add (hb' c hc), fun c hc => ?_⟩
  · rw [e1, e1', zipWith_maps]
    exact List.map_congr_left fun c _ => plus_FR hQ
  · show f c + h c = _
    rw [hf c hc, hf' c hc, Rat.intCast_add]
    have := ne_cast (b := Q) (by omega)
    grind
theorem VecQ.minus {m : Nat} (v : VecQ ds Q m ps f) (w : VecQ ds Q m qs h) : VecQ ds Q (m + 1) (List.zipWith fMinus ps qs) (fun c => f c - h c) := by
  obtain ⟨hQ, n, e1, hb, hf⟩ := v
  obtain ⟨_, n', e1', hb', hf'⟩ := w
  refine ⟨hQ, fun c => n c - n' c, ?_, fun c hc => (hb c hc).sub (hb' c hc), fun c hc => ?_⟩
  · rw [e1, e1', zipWith_maps]
    exact List.map_congr_left fun c _ => minus_FR hQ
  · show f c - h c = _
    rw [hf c hc, hf' c hc, Rat.intCast_sub]
    have := ne_cast (b := Q) (by omega)
    grind
theorem VecQ.zero (hQ : 0 < Q) : VecQ ds Q 0 ((cellsR ds).map fun _ => (0, 1)) (fun _ => 0) := by
  refine ⟨hQ, fun _ => 0, List.map_congr_left fun c _ => ?_, fun c _ => (show (0 : Int).natAbs < 2 ^ 0 by decide), fun c _ => ?_⟩
  · have e : FR 0 1 = ((0, 1) : Fra) := by decide +kernel
    rw [← e]
    exact FR_congr (by decide) hQ (by rw [Int.zero_mul, Int.zero_mul])
  · rw [Rat.div_def]
    show (0 : Rat) = 0 * _
    grind
/-! ### projections -/
/-! ### components -/
/-! ### a vector has one denominator -/
end
end Z

set_option Elab.async false
set_option linter.all false
set_option maxRecDepth 100000
set_option maxHeartbeats 2000000
/-! ZRng: a range that a name holds, and is walked later. -/
namespace L2
open PySem PySem.Spec PyProof.Rows
end L2
namespace Z
open PySem PySem.Spec PyProof.Rows L2
open Evl (Ex Ex.refl Ex.trans Ex.new ex_rd ex_l ex_t sq_of st_of fresh_back sz_of sz_lt)
variable {K : PySem.W.Frag} {ρ ρ' : Rho} {te : TE} {tx : TA}
end Z

set_option Elab.async false
set_option linter.all false
set_option maxRecDepth 100000
set_option maxHeartbeats 2000000
/-! Law24a: components and groupings by the program and by the law. -/
namespace Z
open PySem PySem.Spec PyProof.Rows L2
open Evl (Ex Ex.refl Ex.trans Ex.new ex_rd ex_l ex_t sq_of st_of fresh_back sz_of sz_lt)
namespace K24
section
variable {K : PySem.W.Frag} {S : List Nat} {ρ ρ' ρ1 ρ2 : Rho} {ta tb te : TE} {ds es : List D} {C : Addr} {Rd Ra Rm Rp Rc Rk Rl : Rel}
/-! ### _level_alone -/
/-! ### component -/
structure Fine (ds : List Dm) (Q : Int) (m r : Nat) (ps : List Fra) (f : Fn) : Prop where
  v : VecQ ds Q m ps f
  b : Bd r Q
theorem Fine.ok {ds : List Dm} {Q : Int} {m r : Nat} {ps : List Fra} {f : Fn} (h : Fine ds Q m r ps f) (hm : m ≤ 300) (hr : r ≤ 300) : ∀ p ∈ ps, FraOk 300 p := h.v.ok h.b hr hm
end
end K24
end Z

set_option Elab.async false
set_option linter.all false
set_option maxRecDepth 100000
set_option maxHeartbeats 2000000
/-! Law06a: groupings and groups that are refused: the program's part. -/
namespace Z
open PySem PySem.Spec PyProof.Rows L2
open Evl (Ex Ex.refl Ex.trans Ex.new ex_rd ex_l ex_t sq_of st_of fresh_back sz_of sz_lt)
namespace K06
end K06
/-! ### levels and members of any text -/
/-! ### which tuples are groupings, groups -/
section
variable {K : PySem.W.Frag} {C Cb : Addr} {W : WX} {S : List Nat} {ρ ρ1 ρ2 : Rho} {te ta tb : TE} {ts us : TS} {tr : TA} {e : Exn} {g : TG} {d : D}
/-! ### what raises within an expression -/
/-! ### the raising ends -/
/-! ### groups -/
end
end Z

set_option Elab.async false
set_option linter.all false
set_option maxRecDepth 100000
set_option maxHeartbeats 2000000
/-! Law06b: what the law k06 says of groupings and groups. -/
namespace Z
open PySem PySem.Spec PyProof.Rows L2
open Evl (Ex Ex.refl Ex.trans Ex.new ex_rd ex_l ex_t sq_of st_of fresh_back sz_of sz_lt)
section
variable {K : PySem.W.Frag} {C Cb Ce Cg : Addr} {ρ ρ1 ρ2 : Rho} {ta tb : TE}
/-! ### _law_level, _law_members -/
end
end Z

set_option Elab.async false
set_option linter.all false
set_option maxRecDepth 100000
set_option maxHeartbeats 2000000
/-! Law06c: the ways, all groupings, the law k06. -/
namespace Z
open PySem PySem.Spec PyProof.Rows L2
open Evl (Ex Ex.refl Ex.trans Ex.new ex_rd ex_l ex_t sq_of st_of fresh_back sz_of sz_lt)
section
variable {K : PySem.W.Frag} {C Cb Ce Cg : Addr} {ρ ρ1 ρ2 ρ3 : Rho} {ta tb te : TE} {ds es : List D}
theorem en_catO {i : Nat} {us : List D} (h0 : ρ[i]? = some (.own us)) (k : EvN K tb ρ ρ2 es) (h2 : ρ2[i]? = some (.own ds)) (hl : ds.length + es.length ≤ 90000) : EvN K (tOp rCat (tVar i) tb) ρ ρ2 (ds ++ es) := fun M G H σ S Q q => by
  obtain ⟨p, vs0, e, _⟩ := S.own h0
  refine ⟨.ref p, e, k M G H σ S _ fun r us G2 H2 g2 s2 hr gr hr2 dz2 => ?_⟩
  obtain ⟨p', vs, e', m, gp, hp2, dz⟩ := s2.own h2
  rw [e] at e'
  cases e'
  exact ⟨p, r, vs, us, rfl, rfl, hp2, hr2, sz_of (by rw [dz.len, dz2.len]; omega), fun l hl => q l _ G2 _ (g2.trans (.newO hl)) (s2.newO hl) (g2.d l hl) (fresh_back s2.sub hl) upd_same (dz.app dz2)⟩
/-! ### choices of more rows -/
/-! ### all groupings -/
end
end Z

set_option Elab.async false
set_option linter.all false
set_option maxRecDepth 100000
set_option maxHeartbeats 2000000
/-! ZOwn: a list comprehension over a list that the frame alone changes. -/
namespace Z
open PySem PySem.Spec PyProof.Rows L2
open Evl (Ex Ex.refl Ex.trans Ex.new ex_rd ex_l ex_t sq_of st_of fresh_back sz_of sz_lt)
section
variable {K : PySem.W.Frag} {ρ : Rho} {te : TE} {ds : List D}
theorem en_lcO {i0 j : Nat} (f : D → D) (h : ρ[i0]? = some (.own ds)) (hj : ρ[j]? = some .no) (he : ∀ d ∈ ds, EvZ K te (ρ.set j (.fr d)) (ρ.set j (.fr d)) (f d)) (hl : ds.length ≤ 99999) : EvN K (tLc (iList K (tVar i0)) (gName j) tYes te [j]) ρ ρ (ds.map f) := fun M G1 H1 σ S Q q => by
  have ne : i0 ≠ j := fun z => by subst z; rw [h] at hj; cases hj
  obtain ⟨p, vs, ep, mp, gp, hp, dz⟩ := S.own h
  have wr : wipeR ρ [j] = ρ := by
    show ρ.set j .no = ρ
    obtain ⟨hlt, e⟩ := List.getElem?_eq_some_iff.mp hj
    rw [← e]
    exact List.set_getElem_self hlt
  have S' : Sim K M G1 H1 (L2.wipe σ [j]) ρ := by
    have z := S.wipe (σ' := L2.wipe σ [j]) (vs := [j]) (wipe_length σ [j]) fun i h => wipe_get h
    rwa [wr] at z
  refine ⟨.ref p, ep, p, rfl, ⟨vs, sq_of hp⟩, fun D hD => ?_⟩
  have pD : p ≠ D := ne_of_none hp hD
  refine ⟨fun i m Hh => i ≤ ds.length ∧ m = ds.length - i ∧ ∃ G vd, Grow (fun a => M a ∨ a = D) G1 H1 G Hh ∧ Sim K (fun a => M a ∧ a ≠ D) G Hh (L2.wipe σ [j]) ρ ∧ G D = none ∧ Hh D = some (.lst vd) ∧ Dzs K G vd ((ds.take i).map f), ⟨ds.length, Nat.zero_le _, rfl, G1, [], .newO hD, ?_, fresh_back S.sub hD, upd_same, .nil⟩, ?_⟩
  · exact (S'.newO hD).chMo fun p2 es i e1 e2 => by
      obtain ⟨p', us, e', m, gp', hp', dz'⟩ := S'.mu e1
      rw [e2] at e'
      cases e'
      exact ⟨m, fun z => by subst z; rw [hD] at hp'; cases hp'⟩
  · rintro i m Hi ⟨hle, rfl, Gi, vd, gi, si, gD, hiD, dD⟩
    have gg : ∀ {Gx Hx : Hp}, Grow (fun a => M a ∨ a = D) G1 H1 Gx Hx → Grow M G1 H1 Gx Hx := fun g => g.wk fun a e z => by
      rcases z with z | z
      · exact z
      · subst z; exact absurd hD e
    obtain ⟨p2, vs2, ep2, mp2, gp2, hp2, dz2⟩ := si.own h
    rw [wipe_get (by simpa using ne), ep] at ep2
    cases ep2
    by_cases hlt : i < ds.length
    · have hit : ds[i]? = some ds[i] := List.getElem?_eq_getElem hlt
      obtain ⟨v, ev, dv⟩ := dz2.get hit
      refine .inr ⟨⟨vs2, v, sq_of hp2, ev⟩, fun Hh => ∃ G vd, Grow (fun a => M a ∨ a = D) G1 H1 G Hh ∧ Sim K (fun a => M a ∧ a ≠ D) G Hh (L2.wipe σ [j]) ρ ∧ G D = none ∧ Hh D = some (.lst vd) ∧ Dzs K G vd ((ds.take (i + 1)).map f), fun H' w => ⟨ds.length - (i + 1), by omega, by omega, rfl, w⟩, fun x H' yl => ?_⟩
      obtain ⟨rfl, e2⟩ := yl
      have ex := e2 vs2 (sq_of hp2)
      rw [ev] at ex
      cases ex
      refine tg_name (i := j) _ Gi H' _ v si dv _ fun σa la ka Sa => ⟨?_, ?_⟩
      · exact (wipe_eq (σ := L2.wipe σ [j]) (vs := [j]) la fun k hk => ka k hk).trans (wipe_eq (wipe_length σ [j]) fun k hk => wipe_get hk)
      · show te σa H' _
        refine he _ (List.getElem_mem hlt) _ Gi H' _ Sa _ fun u G4 H4 g4 s4 du => ?_
        have hD4 : H4 D = some (.lst vd) := g4.k D _ (fun z => z.2 rfl) hiD
        have gD4 : G4 D = none := g4.n D (fun z => z.2 rfl) (by rw [hiD]; simp) gD
        have dd : Dzs K G4 (vd ++ [u]) ((ds.take i).map f ++ [f ds[i]]) := (dD.mono g4.g).snoc du
        have s5 := s4.other (o := .lst (vd ++ [u])) gD4 (s4.nin fun z => z.2 rfl)
        have ga : Grow (fun a => M a ∨ a = D) G1 H1 G4 H4 := gi.trans (g4.wk fun a _ z => .inl z.1)
        have lt := dD.len
        rw [List.length_map, List.length_take] at lt
        refine ⟨vd, hD4, sz_lt (by omega), G4, vd ++ [u], ⟨ga.g, fun a o m e => ?_, ga.n, fun a e => ga.d a (upd_none e)⟩, ?_, gD4, upd_same, ?_⟩
        · rw [upd_ne fun z => m (.inr z)]
          exact ga.k a o m e
        · have z := s5.wipe (σ' := L2.wipe σ [j]) (vs := [j]) (by rw [la]) fun k hk => (ka k hk).symm
          have w2 : wipeR (ρ.set j (.fr ds[i])) [j] = ρ := by
            show (ρ.set j (.fr ds[i])).set j .no = ρ
            rw [List.set_set]
            exact wr
          rwa [w2] at z
        · rw [List.take_succ_eq_append_getElem hlt, List.map_append]
          exact dd
    · have ei : i = ds.length := by omega
      subst ei
      refine .inl ⟨⟨vs2, sq_of hp2, Nat.le_of_eq dz2.len⟩, ?_⟩
      rw [List.take_length] at dD
      exact q D vd Gi Hi (gg gi) (sim_unwipe (si.chM fun a _ z => z.1)) hD gD hiD dD
end
end Z

set_option Elab.async false
set_option linter.all false
set_option maxRecDepth 100000
set_option maxHeartbeats 2000000
/-! ZTwo: a call with two objects of the frame's own whose answer is a new list. -/
namespace Z
open PySem PySem.Spec PyProof.Rows L2
open Evl (Ex Ex.refl Ex.trans Ex.new ex_rd ex_l ex_t sq_of st_of fresh_back sz_of sz_lt)
variable {K : PySem.W.Frag} {ρ ρ' ρ1 ρ2 : Rho} {te ta tb : TE} {d : D}
theorem en_callMT {R : Rel} {X : XK} {i j : Nat} {b1 b2 t : MO} {es : List D} (hij : i ≠ j) (h0 : ρ[i]? = some (.mu b1)) (h1 : ρ[j]? = some (.mu t)) (hR : R [.mu b1, .mu t] (.own es) [.mu b2, .mu t]) : EvN K (tCall (SpZ K R) [] X (tCons (tVar i) (tCons (tVar j) tNil))) ρ (ρ.set i (.mu b2)) es := fun M G H σ S Q q => by
  obtain ⟨p, o1, e1, m1, g1, hp1, k1⟩ := S.mu h0
  obtain ⟨r, o2, e2, m2, g2, hp2, k2⟩ := S.mu h1
  have pr : p ≠ r := fun z => by subst z; exact S.apart hij h0 h1 e1 e2
  refine ⟨.ref p, e1, .ref r, e2, ?_⟩
  show SpZ K R ([V.ref p, V.ref r] ++ []) H Q X
  have s0 : Sim K (fun a => a = p ∨ a = r) G H ([V.ref p, V.ref r].map some) [.mu b1, .mu t] := by
    refine ⟨rfl, S.sub, fun {k d} h => ?_, fun {k d} h => ?_, fun {k k2 x y q} ne a1 a2 a3 a4 => ?_⟩
    · match k, h with
      | 0, h | 1, h => simp at h
      | k + 2, h => simp at h
    · match k, h with
      | 0, h => cases h; exact ⟨p, o1, rfl, .inl rfl, g1, hp1, k1⟩
      | 1, h => cases h; exact ⟨r, o2, rfl, .inr rfl, g2, hp2, k2⟩
      | k + 2, h => simp at h
    · match k, k2, a1, a2 with
      | 0, 0, _, _ => exact ne rfl
      | 1, 1, _, _ => exact ne rfl
      | 0, 1, _, _ => cases a3; cases a4; exact pr rfl
      | 1, 0, _, _ => cases a3; cases a4; exact pr rfl
      | k + 2, _, a1, _ => simp at a1
      | 0, k + 2, _, a2 => simp at a2
      | 1, k + 2, _, a2 => simp at a2
  refine ⟨fun a => a = p ∨ a = r, G, _, .own es, _, s0, hR, fun v G' H' g s rs => ?_⟩
  have gM : Grow M G H G' H' := g.wk fun a _ z => by
    rcases z with z | z
    · rw [z]; exact m1
    · rw [z]; exact m2
  obtain ⟨p', o1', e1', _, g1', hp1', k1'⟩ := s.mu (i := 0) rfl
  obtain ⟨r', o2', e2', _, g2', hp2', k2'⟩ := s.mu (i := 1) rfl
  cases e1'
  cases e2'
  have at_ : ∀ {k : Nat} {m : MO}, (ρ.set i (.mu b2))[k]? = some (.mu m) → ∃ m', ρ[k]? = some (.mu m') := fun {k m} h => by
    rcases get_set h with ⟨ek, _, _⟩ | ⟨_, h⟩
    · rw [← ek]; exact ⟨_, h0⟩
    · exact ⟨_, h⟩
  obtain ⟨y, ou, rfl, hy, gy, hy', du⟩ := rs
  obtain ⟨us, rfl, du⟩ := mok_lst du
  refine q y us G' H' gM ⟨by rw [List.length_set]; exact S.len, s.sub, fun {k x} h => ?_, fun {k x} h => ?_, fun {k k2 x y w} ne a1 a2 a3 => ?_⟩ hy gy hy' du
  · rcases get_set h with ⟨_, z, _⟩ | ⟨_, h⟩
    · cases z
    · obtain ⟨w, a1, a2⟩ := S.fr h
      exact ⟨w, a1, a2.mono g.g⟩
  · rcases get_set h with ⟨ek, z, _⟩ | ⟨ek, h⟩
    · subst ek
      cases z
      exact ⟨p, o1', e1, m1, g1', hp1', k1'⟩
    · by_cases ej : k = j
      · subst ej
        rw [h1] at h
        cases h
        exact ⟨r, o2', e2, m2, g2', hp2', k2'⟩
      · obtain ⟨w, ow, b1, b2, b3, b4, b5⟩ := S.mu h
        have n1 : w ≠ p := fun z => by subst z; exact S.apart ek h0 h e1 b1
        have n2 : w ≠ r := fun z => by subst z; exact S.apart (fun z => ej z.symm) h1 h e2 b1
        have nn : ¬ (w = p ∨ w = r) := fun z => z.elim n1 n2
        exact ⟨w, ow, b1, b2, g.n w nn (by rw [b4]; simp) b3, g.k w _ nn b4, b5.mono g.g⟩
  · obtain ⟨x', a1⟩ := at_ a1
    obtain ⟨y', a2⟩ := at_ a2
    exact S.apart ne a1 a2 a3
theorem fin_mu2N {S : List Nat} {ρ' : Rho} {es : List D} {b b' t : MO} (h0 : 0 ∈ S) (h1 : 1 ∈ S) (e0 : ρ'[0]? = some (.mu b')) (e1 : ρ'[1]? = some (.mu t)) : FinZ S [.mu b, .mu t] [.mu b', .mu t] ρ' (.own es) := by
  refine ⟨rfl, fun i es h => ?_, fun i d h => ?_, fun _ _ i es h => ?_⟩
  · match i, h with
    | 0, h => cases h; exact ⟨h0, e0, _, rfl⟩
    | 1, h => cases h; exact ⟨h1, e1, _, rfl⟩
    | i + 2, h => simp at h
  · match i, h with
    | 0, h | 1, h => cases h
    | i + 2, h => simp at h
  · match i, h with
    | 0, h => exact ⟨h0, _, e0⟩
    | 1, h => exact ⟨h1, _, e1⟩
    | i + 2, h => simp at h
end Z

set_option Elab.async false
set_option linter.all false
set_option maxRecDepth 100000
set_option maxHeartbeats 4000000
/-! Law03i: changed dimensions are bounded. -/
namespace Z
open PySem PySem.Spec PyProof.Rows L2
open Evl (Ex Ex.refl Ex.trans Ex.new ex_rd ex_l ex_t sq_of st_of fresh_back sz_of sz_lt)
namespace K03
def e__law_changed_1 (K : PySem.W.Frag) (R__law_a_text : Rel) (R__law_changed_leaves : Rel) (R__law_draw : Rel) (R__law_word : Rel) : TE :=
  (tOp (rIx K) (tVar 4) (tC (.int 0)))
def t__law_changed (K : PySem.W.Frag) (R__law_a_text : Rel) (R__law_changed_leaves : Rel) (R__law_draw : Rel) (R__law_word : Rel) : TS :=
  (tSeq (tAsg (tCall (SpZ K R__law_draw) [] E0 (tCons (tVar 0) (tCons (tCB (rLenX K) (tCons (tVar 1) tNil)) tNil))) (gName 2))
      (tSeq (tAsg (tCall (SpZ K R__law_draw) [] E0 (tCons (tVar 0) (tCons (tC (.int 7)) tNil))) (gName 3))
      (tSeq (tIfS (tTest (tOp rEq (tVar 3) (tC (.int 0)))) (tRet (tSl (rSlL K) (tVar 1) tNoPart (tPart (tVar 2)))) tNext)
      (tSeq (tIfS (tTest (tOp rEq (tVar 3) (tC (.int 1)))) (tRet (tOp rCat (tOp rCat (tSl (rSlL K) (tVar 1) tNoPart (tPart (tVar 2))) (tLst (tCons (tTup (tCons (tCall (SpZ K R__law_a_text) [] E0 (tCons (tVar 0) tNil)) (tCons (tOp (rIx K) (tOp (rIx K) (tVar 1) (tVar 2)) (tC (.int 1))) tNil))) tNil))) (tSl (rSlL K) (tVar 1) (tPart (tOp rAddI (tVar 2) (tC (.int 1)))) tNoPart))) tNext)
      (tSeq (tIfS (tTest (tOp rEq (tVar 3) (tC (.int 2)))) (tRet (tOp rCat (tVar 1) (tLst (tCons (tTup (tCons (tCall (SpZ K R__law_word) [] E0 (tCons (tVar 0) (tCons (tLc (iList K (tVar 1)) (gName 4) tYes (e__law_changed_1 K R__law_a_text R__law_changed_leaves R__law_draw R__law_word) [4]) tNil))) (tCons (tOp (rIx K) (tOp (rIx K) (tVar 1) (tVar 2)) (tC (.int 1))) tNil))) tNil)))) tNext)
      (tSeq (tIfS (tTest (tOp rEq (tVar 3) (tC (.int 3)))) (tRet (tOp rCat (tVar 1) (tLst (tCons (tOp (rIx K) (tVar 1) (tVar 2)) tNil)))) tNext)
      (tRet (tOp rCat (tOp rCat (tSl (rSlL K) (tVar 1) tNoPart (tPart (tVar 2))) (tLst (tCons (tTup (tCons (tOp (rIx K) (tOp (rIx K) (tVar 1) (tVar 2)) (tC (.int 0))) (tCons (tCall (SpZ K R__law_changed_leaves) [] E0 (tCons (tVar 0) (tCons (tOp (rIx K) (tOp (rIx K) (tVar 1) (tVar 2)) (tC (.int 1))) tNil))) tNil))) tNil))) (tSl (rSlL K) (tVar 1) (tPart (tOp rAddI (tVar 2) (tC (.int 1)))) tNoPart)))))))))

/-- a row with at most n leaves of at most B signs -/
structure ROk (n B : Nat) (r : Row) : Prop where
  nm : r.1.length ≤ 1000
  few : 1 ≤ r.2.length
  most : r.2.length ≤ n
  lf : ∀ p ∈ r.2, p.length ≤ B
theorem ROk.mono {n n' B B' : Nat} {r : Row} (h : ROk n B r) (hn : n ≤ n') (hB : B ≤ B') : ROk n' B' r := ⟨h.nm, h.few, Nat.le_trans h.most hn, fun p hp => Nat.le_trans (h.lf p hp) hB⟩
section
variable {K : PySem.W.Frag}
def CCh (R : Rel) : Prop := ∀ (b : List D) (rs : List Row) (n B : Nat), GoodBox b → 1 ≤ rs.length → rs.length ≤ 10 → n ≤ 40 → B ≤ 3000 → (∀ r ∈ rs, ROk n B r) →
  ∃ (rs' : List Row) (b' : List D), GoodBox b' ∧ rs'.length ≤ rs.length + 1 ∧ (∀ r ∈ rs', ROk (n + 10) (B + 1100) r) ∧ R [.own b, .own (rs.map rowT)] (.own (rs'.map rowT)) [.own b', .own (rs.map rowT)]
theorem rel_ch {Ra Rc Rd Rw : Rel} (ha : CTxt Ra) (hc : CChl Rc) (hd : Spec Rd PreDraw PostDraw) (hw : CWord Rw) : CCh (RelOf K [0, 1] (t__law_changed K Ra Rc Rd Rw) 5 2) := fun b rs n B hb l1 l10 hn hB ok => by
  have lm : (rs.map rowT).length = rs.length := List.length_map ..
  obtain ⟨v1, b1, p1, q1, hb1, he1⟩ := ev_draw (K := K) hd (i := 0) (ρ := [.own b, .own (rs.map rowT), .no, .no, .no]) rfl (ev_lenL (ds := rs.map rowT) (rd_own (i := 1) rfl)) rfl hb (by rw [lm]; omega)
  obtain ⟨a, rfl⟩ := Int.eq_ofNat_of_zero_le p1
  rw [lm] at q1
  obtain ⟨k, b2, p2, q2, hb2, he2⟩ := ev_draw (K := K) hd (i := 0) (ρ := [.own b1, .own (rs.map rowT), .fr (.int (a : Int)), .no, .no]) rfl (ev_int (i := 7)) rfl hb1 (by decide)
  have ha' : a < rs.length := by omega
  have er := row_at ha'
  have mr : rowAt rs a ∈ rs := List.mem_of_getElem? er
  have hr := ok _ mr
  have s1 := ex_set (S := [0, 1]) (i := 2) he1 (by decide)
  have s2 := ex_set (S := [0, 1]) (i := 3) he2 (by decide)
  have t : ∀ x : Int, TsZ K (tTest (tOp rEq (tVar 3) (tC (.int x)))) [.own b2, .own (rs.map rowT), .fr (.int (a : Int)), .fr (.int k), .no] [.own b2, .own (rs.map rowT), .fr (.int (a : Int)), .fr (.int k), .no] (decide (k = x)) := fun x => ts_test (ev_eqI (ev_var (i := 3) rfl) ev_int)
  have eR : ∀ bb : List D, EvZ K (tOp (rIx K) (tVar 1) (tVar 2)) [.own bb, .own (rs.map rowT), .fr (.int (a : Int)), .fr (.int k), .no] [.own bb, .own (rs.map rowT), .fr (.int (a : Int)), .fr (.int k), .no] (rowT (rowAt rs a)) := fun bb => ev_ixO (i := 1) (es := rs.map rowT) (ds := rs.map rowT) rfl (ev_var (i := 2) rfl) rfl (at_nat (by rw [List.getElem?_map, er]; rfl))
  have eN : ∀ bb : List D, EvZ K (tOp (rIx K) (tOp (rIx K) (tVar 1) (tVar 2)) (tC (.int 0))) [.own bb, .own (rs.map rowT), .fr (.int (a : Int)), .fr (.int k), .no] [.own bb, .own (rs.map rowT), .fr (.int (a : Int)), .fr (.int k), .no] (.str (rowAt rs a).1) := fun bb => ev_ixT (ds := [.str (rowAt rs a).1, .tup ((rowAt rs a).2.map .str)]) (eR bb) ev_int (at_nat (j := 0) rfl)
  have eL : ∀ bb : List D, EvZ K (tOp (rIx K) (tOp (rIx K) (tVar 1) (tVar 2)) (tC (.int 1))) [.own bb, .own (rs.map rowT), .fr (.int (a : Int)), .fr (.int k), .no] [.own bb, .own (rs.map rowT), .fr (.int (a : Int)), .fr (.int k), .no] (.tup ((rowAt rs a).2.map .str)) := fun bb => ev_ixT (ds := [.str (rowAt rs a).1, .tup ((rowAt rs a).2.map .str)]) (eR bb) ev_int (at_nat (j := 1) rfl)
  have slA : ∀ bb : List D, EvN K (tSl (rSlL K) (tVar 1) tNoPart (tPart (tVar 2))) [.own bb, .own (rs.map rowT), .fr (.int (a : Int)), .fr (.int k), .no] [.own bb, .own (rs.map rowT), .fr (.int (a : Int)), .fr (.int k), .no] ((rs.take a).map rowT) := fun bb => by
    have q := en_slOw (K := K) (i := 1) (ds := rs.map rowT) (ρ := [.own bb, .own (rs.map rowT), .fr (.int (a : Int)), .fr (.int k), .no]) rfl poz_none (poz_some (ev_var (i := 2) (d := .int (a : Int)) rfl))
    rw [cut_take (by rw [lm]; omega), ← List.map_take] at q
    exact q
  have slB : ∀ bb : List D, EvN K (tSl (rSlL K) (tVar 1) (tPart (tOp rAddI (tVar 2) (tC (.int 1)))) tNoPart) [.own bb, .own (rs.map rowT), .fr (.int (a : Int)), .fr (.int k), .no] [.own bb, .own (rs.map rowT), .fr (.int (a : Int)), .fr (.int k), .no] ((rs.drop (a + 1)).map rowT) := fun bb => by
    have q := en_slOw (K := K) (i := 1) (ds := rs.map rowT) (ρ := [.own bb, .own (rs.map rowT), .fr (.int (a : Int)), .fr (.int k), .no]) rfl (poz_some (ev_add (ev_var (i := 2) (d := .int (a : Int)) rfl) (ev_int (i := 1)))) poz_none
    rw [show (a : Int) + 1 = ((a + 1 : Nat) : Int) by omega, cut_drop (by rw [lm]; omega), ← List.map_drop] at q
    exact q
  have ow : ∀ bb : List D, OwnIn [.own bb, .own (rs.map rowT), .fr (.int (a : Int)), .fr (.int k), .no] [.own b2, .own (rs.map rowT), .fr (.int (a : Int)), .fr (.int k), .no] := fun bb => OwnIn.set (ρ := [.own b2, .own (rs.map rowT), .fr (.int (a : Int)), .fr (.int k), .no]) (i := 0) (fs := .lst b2) (gs := .lst bb) rfl
  have up : ∀ r ∈ rs, ROk (n + 10) (B + 1100) r := fun r h => (ok r h).mono (by omega) (by omega)
  have fin : ∀ {bb d : List D}, FinZ [0, 1] [.own b, .own (rs.map rowT)] [.own bb, .own (rs.map rowT)] [.own bb, .own (rs.map rowT), .fr (.int (a : Int)), .fr (.int k), .no] (.own d) := fun {bb d} => fin_mu2N (by decide) (by decide) rfl rfl
  have mid : ∀ (x : Row), ROk (n + 10) (B + 1100) x → ∀ r ∈ rs.take a ++ [x] ++ rs.drop (a + 1), ROk (n + 10) (B + 1100) r := fun x hx r h => by
    rcases List.mem_append.mp h with h | h
    · rcases List.mem_append.mp h with h | h
      · exact up r (List.mem_of_mem_take h)
      · rw [List.mem_singleton.mp h]; exact hx
    · exact up r (List.mem_of_mem_drop h)
  have lmid : ∀ x : Row, (rs.take a ++ [x] ++ rs.drop (a + 1)).length ≤ rs.length + 1 := fun x => by simp; omega
  by_cases k0 : k = 0
  · exact ⟨rs.take a, b2, hb2, by rw [List.length_take]; omega, (fun r h => up r (List.mem_of_mem_take h)), rfl, _, .inl (ex_seq s1 (ex_seq s2 (ex_seqR (ex_ifT (ts_is (t 0) (decide_eq_true k0)) (ex_retN (slA b2)))))), fin⟩
  by_cases k1 : k = 1
  · obtain ⟨z, b3, lz, hb3, hR⟩ := ha b2 hb2
    have e1 := en_lst (K := K) (ag_cons (ev_tup (ds := [.str z, .tup ((rowAt rs a).2.map .str)]) (ag_cons (ev_callB (X := E0) (ds := []) (i := 0) (ρ := [.own b2, .own (rs.map rowT), .fr (.int (a : Int)), .fr (.int k), .no]) rfl ag_nil rfl hR) (ag_cons (eL b3) ag_nil)) (by show 2 ≤ 100000; decide)) ag_nil) (by show 1 ≤ 100000; decide)
    have e2 := (en_cat (en_cat (slA b2) .refl e1 (by simp; omega)) (ow b3) (slB b3) (by simp; omega))
    refine ⟨rs.take a ++ [(z, (rowAt rs a).2)] ++ rs.drop (a + 1), b3, hb3, lmid _, mid _ ⟨lz, hr.few, by have := hr.most; show (rowAt rs a).2.length ≤ _; omega, fun p hp => by have := hr.lf p hp; omega⟩, rfl, _, .inl (ex_seq s1 (ex_seq s2 (ex_seq (ex_ifF (ts_is (t 0) (decide_eq_false k0)) ex_next) (ex_seqR (ex_ifT (ts_is (t 1) (decide_eq_true k1)) (ex_retN ?_ (ow b3))))))), fin⟩
    rw [List.map_append, List.map_append]
    exact e2
  by_cases k2 : k = 2
  · obtain ⟨w, b3, ⟨hb3, hwd, _⟩, hR⟩ := hw b2 (nmS rs) hb2 (by unfold nmS; rw [List.length_map]; omega)
    have hwl := word_len hwd
    let f : D → D := fun d => match d with | .tup (x :: _) => x | _ => .non
    have ef : (rs.map rowT).map f = (nmS rs).map .str := by unfold nmS; rw [List.map_map, List.map_map]; rfl
    have lc : EvN K (tLc (iList K (tVar 1)) (gName 4) tYes (e__law_changed_1 K Ra Rc Rd Rw) [4]) [.own b2, .own (rs.map rowT), .fr (.int (a : Int)), .fr (.int k), .no] [.own b2, .own (rs.map rowT), .fr (.int (a : Int)), .fr (.int k), .no] ((nmS rs).map .str) := by
      rw [← ef]
      refine en_lcO (i0 := 1) (j := 4) f rfl rfl (fun d hd' => ?_) (by rw [lm]; omega)
      obtain ⟨r, _, rfl⟩ := List.mem_map.mp hd'
      exact ev_ixT (ds := [.str r.1, .tup (r.2.map .str)]) (ev_var (i := 4) rfl) ev_int (at_nat (j := 0) rfl)
    have e1 := en_lst (K := K) (ag_cons (ev_tup (ds := [.str w, .tup ((rowAt rs a).2.map .str)]) (ag_cons (ev_callMN (X := E0) (i := 0) rfl lc hR) (ag_cons (eL b3) ag_nil)) (by show 2 ≤ 100000; decide)) ag_nil) (by show 1 ≤ 100000; decide)
    have e2 := (en_catO (i := 1) (us := rs.map rowT) rfl e1 rfl (by rw [lm]; show _ + 1 ≤ _; omega))
    refine ⟨rs ++ [(w, (rowAt rs a).2)], b3, hb3, by rw [List.length_append]; exact Nat.le_refl _, fun r h => ?_, rfl, _, .inl (ex_seq s1 (ex_seq s2 (ex_seq (ex_ifF (ts_is (t 0) (decide_eq_false k0)) ex_next) (ex_seq (ex_ifF (ts_is (t 1) (decide_eq_false k1)) ex_next) (ex_seqR (ex_ifT (ts_is (t 2) (decide_eq_true k2)) (ex_retN ?_ (ow b3)))))))), fin⟩
    · rcases List.mem_append.mp h with h | h
      · exact up r h
      · rw [List.mem_singleton.mp h]
        exact ⟨by show w.length ≤ _; omega, hr.few, by have := hr.most; show (rowAt rs a).2.length ≤ _; omega, fun p hp => by have := hr.lf p hp; omega⟩
    · rw [List.map_append]
      exact e2
  by_cases k3 : k = 3
  · have e1 := en_lst (K := K) (ag_cons (eR b2) ag_nil) (by show 1 ≤ 100000; decide)
    have e2 := (en_catO (i := 1) (us := rs.map rowT) rfl e1 rfl (by rw [lm]; show _ + 1 ≤ _; omega))
    refine ⟨rs ++ [rowAt rs a], b2, hb2, by rw [List.length_append]; exact Nat.le_refl _, fun r h => ?_, rfl, _, .inl (ex_seq s1 (ex_seq s2 (ex_seq (ex_ifF (ts_is (t 0) (decide_eq_false k0)) ex_next) (ex_seq (ex_ifF (ts_is (t 1) (decide_eq_false k1)) ex_next) (ex_seq (ex_ifF (ts_is (t 2) (decide_eq_false k2)) ex_next) (ex_seqR (ex_ifT (ts_is (t 3) (decide_eq_true k3)) (ex_retN ?_ .refl)))))))), fin⟩
    · rcases List.mem_append.mp h with h | h
      · exact up r h
      · rw [List.mem_singleton.mp h]; exact up _ mr
    · rw [List.map_append]
      exact e2
  · obtain ⟨ls', b3, hb3, co, hR⟩ := hc b2 (rowAt rs a).2 B hb2 hr.few (by have := hr.most; omega) hr.lf (by omega)
    have e1 := en_lst (K := K) (ag_cons (ev_tup (ds := [.str (rowAt rs a).1, .tup (ls'.map .str)]) (ag_cons (eN b2) (ag_cons (ev_callB (X := E0) (ds := [.tup ((rowAt rs a).2.map .str)]) (i := 0) (ρ := [.own b2, .own (rs.map rowT), .fr (.int (a : Int)), .fr (.int k), .no]) rfl (ag_cons (eL b2) ag_nil) rfl hR) ag_nil)) (by show 2 ≤ 100000; decide)) ag_nil) (by show 1 ≤ 100000; decide)
    have e2 := (en_cat (en_cat (slA b2) .refl e1 (by simp; omega)) (ow b3) (slB b3) (by simp; omega))
    refine ⟨rs.take a ++ [((rowAt rs a).1, ls')] ++ rs.drop (a + 1), b3, hb3, lmid _, mid _ ⟨hr.nm, co.few, by have := hr.most; have := co.most; show ls'.length ≤ _; omega, co.lf⟩, rfl, _, .inl (ex_seq s1 (ex_seq s2 (ex_seq (ex_ifF (ts_is (t 0) (decide_eq_false k0)) ex_next) (ex_seq (ex_ifF (ts_is (t 1) (decide_eq_false k1)) ex_next) (ex_seq (ex_ifF (ts_is (t 2) (decide_eq_false k2)) ex_next) (ex_seq (ex_ifF (ts_is (t 3) (decide_eq_false k3)) ex_next) (ex_retN ?_ (ow b3)))))))), fin⟩
    rw [List.map_append, List.map_append]
    exact e2
end
end K03
end Z

set_option Elab.async false
set_option linter.all false
set_option maxRecDepth 100000
set_option maxHeartbeats 2000000
/-! Law01c: the law k01: its loops, its meaning. -/
namespace Z
open PySem PySem.Spec PyProof.Rows L2
open Evl (Ex Ex.refl Ex.trans Ex.new ex_rd ex_l ex_t sq_of st_of fresh_back sz_of sz_lt)
section
variable {K : PySem.W.Frag} {C Ce Cn Cb : Addr} {Rsp Rc Rco Rpt Rx Rpa Rb Rcs Rd Rlp Rs Rwd : Rel} {RX : RelX}
theorem get_lt {α : Type} {l : List α} {i : Nat} (h : i < l.length) : ∃ x, l[i]? = some x := ⟨_, List.getElem?_eq_getElem h⟩
theorem plain_dims {n : Nat} {ds : List Dm} (g : GoodDs ds) : Plain (n + 4) (dimsD ds) := by
  have hm := g.most
  refine .tup (fun x hx => ?_) (by rw [List.length_map]; omega)
  obtain ⟨d, hd, rfl⟩ := List.mem_map.mp hx
  have h8 := (g.at_ hd).most
  refine .tup (fun y hy => ?_) (by show 2 ≤ 90000; decide)
  rcases List.mem_cons.mp hy with rfl | hy
  · exact .str _
  · rw [List.mem_singleton.mp hy]
    refine .tup (fun z hz => ?_) (by rw [lenTup]; omega)
    obtain ⟨p, _, rfl⟩ := List.mem_map.mp hz
    exact .str _
theorem cel_len {ds : List Dm} (g : GoodDs ds) {c : List Str} (h : c ∈ celS ds) : c.length = ds.length := by
  rw [celS_is] at h
  obtain ⟨c', h', rfl⟩ := List.mem_map.mp h
  rw [List.length_map]
  exact (cell_good ds c' g.good h').1
theorem cel_ok {ds : List Dm} (g : GoodDs ds) {c : List Str} (h : c ∈ celS ds) : ∀ s ∈ c, StrOk s := fun s hs => by
  rw [celS_is] at h
  obtain ⟨c', h', rfl⟩ := List.mem_map.mp h
  obtain ⟨w, hw, rfl⟩ := List.mem_map.mp hs
  exact path_ok ((cell_good ds c' g.good h').2 w hw).1
abbrev b3 (K : PySem.W.Frag) (Rsp Rc Rco Rpt Rx : Rel) (RX : RelX) (Rpa Rb Rcs Rd Rlp Rs Rwd : Rel) (Cb Ce Cn C : Addr) : TS := K01.b_law_3 K Rsp Rc Rco Rpt Rx RX Rpa Rb Rcs Rd Rlp Rs Rwd Cb Ce Cn C
abbrev b2 (K : PySem.W.Frag) (Rsp Rc Rco Rpt Rx : Rel) (RX : RelX) (Rpa Rb Rcs Rd Rlp Rs Rwd : Rel) (Cb Ce Cn C : Addr) : TS := K01.b_law_2 K Rsp Rc Rco Rpt Rx RX Rpa Rb Rcs Rd Rlp Rs Rwd Cb Ce Cn C
theorem turn (hxm : CCelX C Ce Rx RX) (hpa : CPath Rpa) (hd : Spec Rd PreDraw PostDraw) (em : PySem.W.exmOne K (.ref Ce) (.ref Cb) = some true) (k1 : PySem.W.kitOne K (.ref Ce) (.ref Ce) = some true) (k2 : PySem.W.kitOne K (.ref Ce) (.ref Cn) = some false)
    {ds : List Dm} (gd : GoodDs ds) {c0 c4 c6 : Cell} (b : List D) (hb : GoodBox b) (c7 c8 c9 c10 c11 c12 : Cell) : ∃ (b' : List D) (c7' c8' c9' c10' c11' c12' : Cell), GoodBox b' ∧ ExZ K [] (b2 K Rsp Rc Rco Rpt Rx RX Rpa Rb Rcs Rd Rlp Rs Rwd Cb Ce Cn C) [c0, .fr (dimsD ds), .fr (spD C ds), .fr (.lst ((celS ds).map celT)), c4, .own b, c6, c7, c8, c9, c10, c11, c12, .no]
      (.nx [c0, .fr (dimsD ds), .fr (spD C ds), .fr (.lst ((celS ds).map celT)), c4, .own b', c6, c7', c8', c9', c10', c11', c12', .no]) := by
  have n1 := gd.few
  have n3 := gd.most
  have pos := cells_pos gd.good
  -- strange
  obtain ⟨v1, b1, a1, a2, hb1, he1⟩ := ev_draw (K := K) hd (i := 5) (ρ := [c0, .fr (dimsD ds), .fr (spD C ds), .fr (.lst ((celS ds).map celT)), c4, .own b, c6, c7, c8, c9, c10, c11, c12, .no]) rfl (ev_lenL (ds := (celS ds).map celT) (ev_var (i := 3) rfl).rd) rfl hb (by rw [List.length_map, celS_len]; omega)
  obtain ⟨i1, rfl⟩ := Int.eq_ofNat_of_zero_le a1
  rw [List.length_map] at a2
  obtain ⟨c, hc⟩ := get_lt (l := celS ds) (i := i1) (by omega)
  have hcm := List.mem_of_getElem? hc
  have cl := cel_len gd hcm
  have cok := cel_ok gd hcm
  have s1 := ex_setN (S := []) (i := 7) (en_lstT (ev_ixL (ds := (celS ds).map celT) (d := celT c) (ev_var (i := 3) rfl) he1 (at_nat (j := i1) (by rw [List.getElem?_map, hc]; rfl)))) (.set rfl) (by decide)
  -- at
  obtain ⟨v2, b2', a3, a4, hb2, he2⟩ := ev_draw (K := K) hd (i := 5) (ρ := [c0, .fr (dimsD ds), .fr (spD C ds), .fr (.lst ((celS ds).map celT)), c4, .own b1, c6, .own (c.map .str), c8, c9, c10, c11, c12, .no]) rfl (ev_lenL (ds := c.map .str) (rd_own (i := 7) rfl)) rfl hb1 (by rw [List.length_map]; omega)
  obtain ⟨at_, rfl⟩ := Int.eq_ofNat_of_zero_le a3
  rw [List.length_map] at a4
  have s2 := ex_set (S := []) (i := 8) he2 (by decide)
  -- kind, path
  obtain ⟨v3, b3', a5, a6, hb3, he3⟩ := ev_draw (K := K) hd (i := 5) (ρ := [c0, .fr (dimsD ds), .fr (spD C ds), .fr (.lst ((celS ds).map celT)), c4, .own b2', c6, .own (c.map .str), .fr (.int (at_ : Int)), c9, c10, c11, c12, .no]) rfl (ev_int (i := 4)) rfl hb2 (by decide)
  have s3 := ex_set (S := []) (i := 9) he3 (by decide)
  obtain ⟨p, b4, hb4, pok, hR⟩ := hpa b3' ds hb3 gd
  have s4 := ex_set (K := K) (S := []) (ρ := [c0, .fr (dimsD ds), .fr (spD C ds), .fr (.lst ((celS ds).map celT)), c4, .own b3', c6, .own (c.map .str), .fr (.int (at_ : Int)), .fr (.int v3), c10, c11, c12, .no]) (i := 10) (ev_callB (X := E0) (ds := [dimsD ds]) (i := 5) rfl (ag_cons (ev_var (i := 1) rfl) ag_nil) rfl hR) (by decide)
  have t : ∀ k : Int, TsZ K (tTest (tOp rEq (tVar 9) (tC (.int k)))) [c0, .fr (dimsD ds), .fr (spD C ds), .fr (.lst ((celS ds).map celT)), c4, .own b4, c6, .own (c.map .str), .fr (.int (at_ : Int)), .fr (.int v3), .fr (.str p), c11, c12, .no] [c0, .fr (dimsD ds), .fr (spD C ds), .fr (.lst ((celS ds).map celT)), c4, .own b4, c6, .own (c.map .str), .fr (.int (at_ : Int)), .fr (.int v3), .fr (.str p), c11, c12, .no] (decide (v3 = k)) := fun k => ts_test (ev_eqI (ev_i1 (i := 9) (n := v3) rfl) ev_int)
  have s5 : ∃ z : List Str, (∀ x ∈ z, StrOk x) ∧ ExZ K [] (tIfS (tTest (tOp rEq (tVar 9) (tC (.int 0)))) (tAsg (tOp rCat (tSl (rSlL K) (tVar 7) tNoPart (tPart (tVar 8))) (tSl (rSlL K) (tVar 7) (tPart (tOp rAddI (tVar 8) (tC (.int 1)))) tNoPart)) (gName 7)) (tIfS (tTest (tOp rEq (tVar 9) (tC (.int 1)))) (tAsg (tOp rCat (tOp rCat (tSl (rSlL K) (tVar 7) tNoPart (tPart (tVar 8))) (tLst (tCons (tVar 10) tNil))) (tSl (rSlL K) (tVar 7) (tPart (tVar 8)) tNoPart)) (gName 7)) (tAsg (tVar 10) (gSub (tVar 7) (tVar 8) rSetL))))
      [c0, .fr (dimsD ds), .fr (spD C ds), .fr (.lst ((celS ds).map celT)), c4, .own b4, c6, .own (c.map .str), .fr (.int (at_ : Int)), .fr (.int v3), .fr (.str p), c11, c12, .no] (.nx [c0, .fr (dimsD ds), .fr (spD C ds), .fr (.lst ((celS ds).map celT)), c4, .own b4, c6, .own (z.map .str), .fr (.int (at_ : Int)), .fr (.int v3), .fr (.str p), c11, c12, .no]) := by
    have sl : ∀ {tl th : TO} {lo hi : Option Int}, PoZ K tl [c0, .fr (dimsD ds), .fr (spD C ds), .fr (.lst ((celS ds).map celT)), c4, .own b4, c6, .fr (.lst (c.map .str)), .fr (.int (at_ : Int)), .fr (.int v3), .fr (.str p), c11, c12, .no] [c0, .fr (dimsD ds), .fr (spD C ds), .fr (.lst ((celS ds).map celT)), c4, .own b4, c6, .fr (.lst (c.map .str)), .fr (.int (at_ : Int)), .fr (.int v3), .fr (.str p), c11, c12, .no] lo →
        PoZ K th [c0, .fr (dimsD ds), .fr (spD C ds), .fr (.lst ((celS ds).map celT)), c4, .own b4, c6, .fr (.lst (c.map .str)), .fr (.int (at_ : Int)), .fr (.int v3), .fr (.str p), c11, c12, .no] [c0, .fr (dimsD ds), .fr (spD C ds), .fr (.lst ((celS ds).map celT)), c4, .own b4, c6, .fr (.lst (c.map .str)), .fr (.int (at_ : Int)), .fr (.int v3), .fr (.str p), c11, c12, .no] hi →
        EvN K (tSl (rSlL K) (tVar 7) tl th) [c0, .fr (dimsD ds), .fr (spD C ds), .fr (.lst ((celS ds).map celT)), c4, .own b4, c6, .fr (.lst (c.map .str)), .fr (.int (at_ : Int)), .fr (.int v3), .fr (.str p), c11, c12, .no] [c0, .fr (dimsD ds), .fr (spD C ds), .fr (.lst ((celS ds).map celT)), c4, .own b4, c6, .fr (.lst (c.map .str)), .fr (.int (at_ : Int)), .fr (.int v3), .fr (.str p), c11, c12, .no] ((cutL c lo hi).map .str) := fun {tl th lo hi} h1 h2 => by
      have q := en_slZ (K := K) (te := tVar 7) (ev_var (i := 7) (d := .lst (c.map .str)) rfl) h1 h2
      rw [cut_map] at q
      exact q
    have pAt := poz_some (K := K) (ev_i1 (ρ := [c0, .fr (dimsD ds), .fr (spD C ds), .fr (.lst ((celS ds).map celT)), c4, .own b4, c6, .fr (.lst (c.map .str)), .fr (.int (at_ : Int)), .fr (.int v3), .fr (.str p), c11, c12, .no]) (i := 8) (n := (at_ : Int)) rfl)
    have pAt1 := poz_some (K := K) (ev_add (ev_i1 (ρ := [c0, .fr (dimsD ds), .fr (spD C ds), .fr (.lst ((celS ds).map celT)), c4, .own b4, c6, .fr (.lst (c.map .str)), .fr (.int (at_ : Int)), .fr (.int v3), .fr (.str p), c11, c12, .no]) (i := 8) (n := (at_ : Int)) rfl) (ev_int (i := 1)))
    by_cases k0 : v3 = 0
    · refine ⟨cutL c none (some (at_ : Int)) ++ cutL c (some ((at_ : Int) + 1)) none, fun x hx => ?_, ex_ifT (ts_is (t 0) (decide_eq_true k0)) (ex_freeze (i := 7) rfl ?_)⟩
      · rcases List.mem_append.mp hx with h | h <;> exact cok x (cut_mem x h)
      · have l1 := cut_len (xs := c) (lo := none) (hi := some (at_ : Int))
        have l2 := cut_len (xs := c) (lo := some ((at_ : Int) + 1)) (hi := none)
        rw [List.map_append]
        exact ex_setN (i := 7) (en_cat (sl poz_none pAt) .refl (sl pAt1 poz_none) (by rw [List.length_map, List.length_map]; omega)) .refl (by decide)
    · by_cases k1 : v3 = 1
      · refine ⟨cutL c none (some (at_ : Int)) ++ [p] ++ cutL c (some (at_ : Int)) none, fun x hx => ?_, ex_ifF (ts_is (t 0) (decide_eq_false k0)) (ex_ifT (ts_is (t 1) (decide_eq_true k1)) (ex_freeze (i := 7) rfl ?_))⟩
        · rcases List.mem_append.mp hx with h | h
          · rcases List.mem_append.mp h with h | h
            · exact cok x (cut_mem x h)
            · rw [List.mem_singleton.mp h]; exact pok.1
          · exact cok x (cut_mem x h)
        · have l1 := cut_len (xs := c) (lo := none) (hi := some (at_ : Int))
          have l2 := cut_len (xs := c) (lo := some (at_ : Int)) (hi := none)
          rw [List.map_append, List.map_append]
          exact ex_setN (i := 7) (en_cat (en_cat (sl poz_none pAt) .refl (en_lst (ag_cons (ev_var (i := 10) rfl) ag_nil) (by show 1 ≤ 100000; decide)) (by rw [List.length_map]; show _ + 1 ≤ _; omega)) .refl (sl pAt poz_none) (by rw [List.length_append, List.length_map, List.length_map]; show _ + 1 + _ ≤ _; omega)) .refl (by decide)
      · refine ⟨c.set at_ p, fun x hx => ?_, ex_ifF (ts_is (t 0) (decide_eq_false k0)) (ex_ifF (ts_is (t 1) (decide_eq_false k1)) ?_)⟩
        · rcases List.mem_or_eq_of_mem_set hx with h | h
          · exact cok x h
          · rw [h]; exact pok.1
        · rw [List.map_set]
          exact ex_setAt (i := 7) (d := .str p) (ev_var (i := 10) rfl) (ev_var (i := 8) rfl) rfl rfl (ixN_nat (by rw [List.length_map]; omega))
  obtain ⟨z, zok, s5⟩ := s5
  have s6 := ex_set (K := K) (S := []) (ρ := [c0, .fr (dimsD ds), .fr (spD C ds), .fr (.lst ((celS ds).map celT)), c4, .own b4, c6, .own (z.map .str), .fr (.int (at_ : Int)), .fr (.int v3), .fr (.str p), c11, c12, .no]) (i := 7) (ev_tupO (i := 7) rfl) (by decide)
  have s7 := ex_set (K := K) (S := []) (ρ := [c0, .fr (dimsD ds), .fr (spD C ds), .fr (.lst ((celS ds).map celT)), c4, .own b4, c6, .fr (celT z), .fr (.int (at_ : Int)), .fr (.int v3), .fr (.str p), c11, c12, .no]) (i := 11) (ev_bl (i := false)) (by decide)
  have s8 := ex_set (K := K) (S := []) (ρ := [c0, .fr (dimsD ds), .fr (spD C ds), .fr (.lst ((celS ds).map celT)), c4, .own b4, c6, .fr (celT z), .fr (.int (at_ : Int)), .fr (.int v3), .fr (.str p), .fr (.bl false), c12, .no]) (i := 12) (ev_int (i := 0)) (by decide)
  have allOk : ∀ x ∈ celS ds, ∀ s ∈ x, StrOk s := fun x hx => cel_ok gd hx
  obtain ⟨hx1, hx2⟩ := hxm ds z gd
  by_cases hz : z ∈ celS ds
  · obtain ⟨k, hk⟩ := List.getElem?_of_mem hz
    refine ⟨b4, _, _, _, _, .fr (.bl false), .fr (.int (k : Int)), hb4, ex_seq s1 (ex_seq s2 (ex_seq s3 (ex_seq s4 (ex_seq s5 (ex_seq s6 (ex_seq s7 (ex_seq s8 (ex_seq (ex_tryN fun W => ex_set (i := 12) (ev_methXF (fs := spF ds) (ds := [celT z]) (ev_var (i := 2) rfl) (by rfl) (ag_cons (ev_var (i := 7) rfl) ag_nil) (hx1 k hk)) (by decide)) (ex_ifF (ts_orF (ts_is (ts_test (ev_neB (ev_var (i := 11) (d := .bl false) rfl) (ev_notInX EqT.str.tup (by decide) (a := z) (as := celS ds) zok allOk (ev_var (i := 7) rfl) (ev_var (i := 3) rfl).rd))) ?_) (ts_is (ts_andT (ts_not (ts_truB (b := false) (ev_var (i := 11) rfl))) (ts_test (ev_neI (ev_i1 (i := 12) (n := (k : Int)) rfl) (ev_indexL EqT.str.tup (by decide) (a := z) (as := celS ds) zok allOk hz (ev_var (i := 3) rfl) (ev_var (i := 7) rfl))))) ?_)) ex_next)))))))))⟩
    · simp [hz]
    · rw [idx_at (celS_nd gd) hk]
      simp
  · refine ⟨b4, _, _, _, _, .fr (.bl true), .fr (.int 0), hb4, ex_seq s1 (ex_seq s2 (ex_seq s3 (ex_seq s4 (ex_seq s5 (ex_seq s6 (ex_seq s7 (ex_seq s8 (ex_seq (ex_tryX (e := ⟨.ref Ce, none⟩) (o := .nx [c0, .fr (dimsD ds), .fr (spD C ds), .fr (.lst ((celS ds).map celT)), c4, .own b4, c6, .fr (celT z), .fr (.int (at_ : Int)), .fr (.int v3), .fr (.str p), .fr (.bl true), .fr (.int 0), .no]) (fun W => xx_asg (ex_methX (fs := spF ds) (ds := [celT z]) (ev_var (i := 2) rfl) (by rfl) (ag_cons (ev_var (i := 7) rfl) ag_nil) (hx2 hz))) em (by decide) (by show 13 < 14; decide) fun a d => su_seq (ex_set (i := 11) ev_bl (by decide)) (su_ifF (te_or (te_not (te_isG k1)) fun _ => te_isG k2) (su_of ex_next))) (ex_ifF (ts_orF (ts_is (ts_test (ev_neB (ev_var (i := 11) (d := .bl true) rfl) (ev_notInX EqT.str.tup (by decide) (a := z) (as := celS ds) zok allOk (ev_var (i := 7) rfl) (ev_var (i := 3) rfl).rd))) ?_) (ts_andF (ts_not (ts_truB (b := true) (ev_var (i := 11) rfl))))) ex_next)))))))))⟩
    simp [hz]
namespace K01
end K01
end
end Z

set_option Elab.async false
set_option linter.all false
set_option maxRecDepth 100000
set_option maxHeartbeats 4000000
/-! Law03j: the law k03. -/
namespace Z
open PySem PySem.Spec PyProof.Rows L2
open Evl (Ex Ex.refl Ex.trans Ex.new ex_rd ex_l ex_t sq_of st_of fresh_back sz_of sz_lt)
namespace K03
def y_law_1 (K : PySem.W.Frag) (Rh__law_are_dimensions : Rel) (Rx_Space : Rel) (RX_Space : RelX) (R__law_are_dimensions : Rel) (R__law_box : Rel) (R__law_changed : Rel) (R__law_draw : Rel) (R__law_same : Rel) (R__law_wide : Rel) (C_BadDimensions : Addr) (C_CubeError : Addr) (C_Space : Addr) (W : WX) : TS :=
  (tAsg (tMakeX C_Space (SpX K Rx_Space RX_Space) W (tCons (tVar 4) tNil)) (gName 5))
def u_law_1 (K : PySem.W.Frag) (Rh__law_are_dimensions : Rel) (Rx_Space : Rel) (RX_Space : RelX) (R__law_are_dimensions : Rel) (R__law_box : Rel) (R__law_changed : Rel) (R__law_draw : Rel) (R__law_same : Rel) (R__law_wide : Rel) (C_BadDimensions : Addr) (C_CubeError : Addr) (C_Space : Addr) (a : Addr) (cls : Value) (d : Option Addr) : TS :=
  (tRet (tAndV (tCB (rIsG K C_BadDimensions a cls d) (tCons (tVar 6) (tCons (tC (.ref C_BadDimensions)) tNil))) (tAndV (tCB (rIsG K C_BadDimensions a cls d) (tCons (tVar 6) (tCons (tC (.ty "ValueError")) tNil))) (tNotV (tCallS (SpZ K Rh__law_are_dimensions) (fun _ => E0) (tCons (tVar 4) tNil))))))
def b_law_2 (K : PySem.W.Frag) (Rh__law_are_dimensions : Rel) (Rx_Space : Rel) (RX_Space : RelX) (R__law_are_dimensions : Rel) (R__law_box : Rel) (R__law_changed : Rel) (R__law_draw : Rel) (R__law_same : Rel) (R__law_wide : Rel) (C_BadDimensions : Addr) (C_CubeError : Addr) (C_Space : Addr) : TS :=
  (tIfS (tTest (tOp rGtI (tCB (rLenX K) (tCons (tVar 1) tNil)) (tC (.int 0)))) (tAsg (tCall (SpZ K R__law_changed) [] E0 (tCons (tVar 2) (tCons (tVar 1) tNil))) (gName 1)) tNext)
def t_law (K : PySem.W.Frag) (Rh__law_are_dimensions : Rel) (Rx_Space : Rel) (RX_Space : RelX) (R__law_are_dimensions : Rel) (R__law_box : Rel) (R__law_changed : Rel) (R__law_draw : Rel) (R__law_same : Rel) (R__law_wide : Rel) (C_BadDimensions : Addr) (C_CubeError : Addr) (C_Space : Addr) : TS :=
  (tSeq (tAsg (tCB (rLstOf K) (tCons (tCall (SpZ K R__law_wide) [] E0 (tCons (tVar 0) (tCons (tC (.int 0)) (tCons (tC (.int 48)) tNil)))) tNil)) (gName 1))
      (tSeq (tAsg (tCall (SpZ K R__law_box) [] E0 (tCons (tVar 0) (tCons (tC (.int 5)) tNil))) (gName 2))
      (tSeq (tFor (iRng1 (tCons (tCall (SpZ K R__law_draw) [] E0 (tCons (tVar 2) (tCons (tC (.int 3)) tNil))) tNil)) (gName 3) (b_law_2 K Rh__law_are_dimensions Rx_Space RX_Space R__law_are_dimensions R__law_box R__law_changed R__law_draw R__law_same R__law_wide C_BadDimensions C_CubeError C_Space))
      (tSeq (tAsg (tCB (rTupOf K) (tCons (tVar 1) tNil)) (gName 4))
      (tSeq (tTry K (.ref C_CubeError) 6 (fun a cls d => u_law_1 K Rh__law_are_dimensions Rx_Space RX_Space R__law_are_dimensions R__law_box R__law_changed R__law_draw R__law_same R__law_wide C_BadDimensions C_CubeError C_Space a cls d) (fun _ _ _ _ => False) (fun W => y_law_1 K Rh__law_are_dimensions Rx_Space RX_Space R__law_are_dimensions R__law_box R__law_changed R__law_draw R__law_same R__law_wide C_BadDimensions C_CubeError C_Space W))
      (tRet (tAndV (tCall (SpZ K R__law_are_dimensions) [] E0 (tCons (tVar 4) tNil)) (tCall (SpZ K R__law_same) [] E0 (tCons (tFld K (tVar 5) "dimensions") (tCons (tVar 4) tNil))))))))))

theorem ROk.small {n B : Nat} {r : Row} (h : ROk n B r) (hn : n ≤ 100) (hB : B ≤ 5000) : Small r := ⟨by have := h.nm; omega, by have := h.most; omega, fun p hp => Nat.le_trans (h.lf p hp) hB⟩
def rowOf (d : Dm) : Row := (d.name, d.paths)
theorem ok_of {ds : List Dm} (gd : GoodDs ds) : ∀ r ∈ ds.map rowOf, ROk 8 100 r := fun r hr => by
  obtain ⟨d, hd, rfl⟩ := List.mem_map.mp hr
  obtain ⟨n, g⟩ := gd.good d hd
  have hl : d.paths.length = d.leaves.length := by unfold Dm.paths; rw [List.length_map]
  refine ⟨by have := (word_len g.name).2; show d.name.length ≤ 1000; omega, by show 1 ≤ d.paths.length; have := g.few; omega, by show d.paths.length ≤ 8; have := g.most; omega, fun p hp => ?_⟩
  obtain ⟨ws, hws, rfl⟩ := List.mem_map.mp (show p ∈ d.leaves.map pathS from hp)
  have := path_len (g.words ws hws)
  have := g.depth ws hws
  have := g.n3
  omega
end K03
end Z

set_option Elab.async false
set_option linter.all false
set_option maxRecDepth 100000
set_option maxHeartbeats 4000000
/-! Law03k: the law k03: its turns, its meaning. -/
namespace Z
open PySem PySem.Spec PyProof.Rows L2
open Evl (Ex Ex.refl Ex.trans Ex.new ex_rd ex_l ex_t sq_of st_of fresh_back sz_of sz_lt)
namespace K03
section
variable {K : PySem.W.Frag} {Rh Rx R__ad Rb Rc Rd Rs Rw : Rel} {RX : RelX} {CB CE C : Addr}
theorem turns (hc : CCh Rc) {c0 : Cell} : ∀ (k s n B L : Nat) (rs : List Row) (b : List D) (c3 : Cell), GoodBox b → rs.length ≤ L → (∀ r ∈ rs, ROk n B r) → L + k ≤ 10 → n + 10 * k ≤ 40 → B + 1100 * k ≤ 3000 →
    ∃ (rs' : List Row) (b' : List D) (c3' : Cell), rs'.length ≤ L + k ∧ (∀ r ∈ rs', ROk (n + 10 * k) (B + 1100 * k) r) ∧
      LoopZ K [] (gName 3) (b_law_2 K Rh Rx RX R__ad Rb Rc Rd Rs Rw CB CE C) [3] (rangeD (s : Int) k) [c0, .own (rs.map rowT), .own b, c3, .no, .no, .no] (.nx [c0, .own (rs'.map rowT), .own b', c3', .no, .no, .no])
  | 0, s, n, B, L, rs, b, c3, hb, hl, ok, _, _, _ => ⟨rs, b, c3, by omega, fun r h => (ok r h).mono (by omega) (by omega), by
      show LoopZ _ _ _ _ _ [] _ _
      exact .nil⟩
  | k + 1, s, n, B, L, rs, b, c3, hb, hl, ok, h1, h2, h3 => by
    have lm : (rs.map rowT).length = rs.length := List.length_map ..
    have t : TsZ K (tTest (tOp rGtI (tCB (rLenX K) (tCons (tVar 1) tNil)) (tC (.int 0)))) [c0, .own (rs.map rowT), .own b, .fr (.int (s : Int)), .no, .no, .no] [c0, .own (rs.map rowT), .own b, .fr (.int (s : Int)), .no, .no, .no] (decide (0 < (rs.length : Int))) := ts_is (ts_test (ev_gt (ev_lenL (ds := rs.map rowT) (rd_own (i := 1) rfl)) ev_int)) (by rw [lm])
    rw [rangeD_cons]
    by_cases e : rs = []
    · subst e
      obtain ⟨rs', b', c3', q1, q2, q3⟩ := turns hc k (s + 1) n B L [] b (.fr (.int (s : Int))) hb hl ok (by omega) (by omega) (by omega)
      exact ⟨rs', b', c3', by omega, fun r h => (q2 r h).mono (by omega) (by omega), .step tg_name (ex_ifF (ts_is t (by decide)) ex_next) q3⟩
    · have l1 : 1 ≤ rs.length := by
        cases rs with
        | nil => exact absurd rfl e
        | cons r rs => exact Nat.succ_le_succ (Nat.zero_le _)
      obtain ⟨rs1, b1, hb1, hl1, ok1, hR⟩ := hc b rs n B hb l1 (by omega) (by omega) (by omega) ok
      obtain ⟨rs', b', c3', q1, q2, q3⟩ := turns hc k (s + 1) (n + 10) (B + 1100) (L + 1) rs1 b1 (.fr (.int (s : Int))) hb1 (by omega) ok1 (by omega) (by omega) (by omega)
      refine ⟨rs', b', c3', by omega, fun r h => (q2 r h).mono (by omega) (by omega), .step tg_name (ex_ifT (ts_is t (decide_eq_true (by omega))) (ex_setN (i := 1) (en_callMT (i := 2) (j := 1) (by decide) rfl rfl hR) (OwnIn.set (i := 2) rfl) (by decide))) q3⟩
theorem sem_law (hwd : CWide Rw) (hb : Spec Rb PreBox PostBox) (hd : Spec Rd PreDraw PostDraw) (hc : CCh Rc) (hsp : CSpX C CB Rx RX) (had : CAd R__ad) (hhad : CAd Rh) (hs : Spec Rs (PreSame 4) PostSame) (c : Cls K C) (na : ∀ f ∈ spNames, NoAttr K C f)
    (em : PySem.W.exmOne K (.ref CB) (.ref CE) = some true) (k1 : PySem.W.kitOne K (.ref CB) (.ref CB) = some true) (k2 : PySem.W.kitOne K (.ref CB) (.type "ValueError") = some true) (ns : List Int) :
    RelOf K [] (t_law K Rh Rx RX R__ad Rb Rc Rd Rs Rw CB CE C) 7 1 [.fr (.lst (ns.map .int))] (.fr (.bl true)) [.fr (.lst (ns.map .int))] := by
  obtain ⟨ds, gd, _, hW⟩ := hwd ns 0 48 (by decide) (by decide) (by decide)
  obtain ⟨r, cs', hB, rfl, b, gb, rfl⟩ := hb _ ⟨ns, 5, rfl, by decide⟩
  have e0 : (ds.map rowOf).map rowT = ds.map Dm.d := by rw [List.map_map]; rfl
  have l0 : (ds.map rowOf).length ≤ 3 := by rw [List.length_map]; exact gd.most
  obtain ⟨v, b1, p1, q1, hb1, he1⟩ := ev_draw (K := K) hd (i := 2) (ρ := [.fr (.lst (ns.map .int)), .own ((ds.map rowOf).map rowT), .own b, .no, .no, .no, .no]) rfl (ev_int (i := 3)) rfl gb (by decide)
  obtain ⟨k, rfl⟩ := Int.eq_ofNat_of_zero_le p1
  obtain ⟨rs, b2, c3, hl, ok, hL⟩ := turns (K := K) (Rh := Rh) (Rx := Rx) (RX := RX) (R__ad := R__ad) (Rb := Rb) (Rd := Rd) (Rs := Rs) (Rw := Rw) (CB := CB) (CE := CE) (C := C) hc (c0 := .fr (.lst (ns.map .int))) k 0 8 100 3 (ds.map rowOf) b1 .no hb1 l0 (ok_of gd) (by omega) (by omega) (by omega)
  have sm : ∀ r ∈ rs, Small r := fun r h => (ok r h).small (by omega) (by omega)
  have h8 : rs.length ≤ 8 := by omega
  have s1 : ExZ K [] (tAsg (tCB (rLstOf K) (tCons (tCall (SpZ K Rw) [] E0 (tCons (tVar 0) (tCons (tC (.int 0)) (tCons (tC (.int 48)) tNil)))) tNil)) (gName 1)) [.fr (.lst (ns.map .int)), .no, .no, .no, .no, .no, .no] (.nx [.fr (.lst (ns.map .int)), .own ((ds.map rowOf).map rowT), .no, .no, .no, .no, .no]) := by
    rw [e0]
    exact ex_setN (i := 1) (en_lstT (ds := ds.map Dm.d) (ev_callF (ds := [.lst (ns.map .int), .int 0, .int 48]) (ag_cons (ev_var (i := 0) rfl) (ag_cons ev_int (ag_cons ev_int ag_nil))) hW)) .refl (by decide)
  have s2 := ex_setN (S := []) (K := K) (ρ := [.fr (.lst (ns.map .int)), .own ((ds.map rowOf).map rowT), .no, .no, .no, .no, .no]) (i := 2) (en_callF (X := E0) (ds := [.lst (ns.map .int), .int 5]) (ag_cons (ev_var (i := 0) rfl) (ag_cons ev_int ag_nil)) hB) .refl (by decide)
  have s3 := ex_for (S := []) (it_range1 (n := (k : Int)) (ag_cons he1 ag_nil) ⟨by omega, by omega⟩) (by rw [Int.toNat_natCast]; exact hL) (by decide)
  have s4 := ex_set (S := []) (K := K) (i := 4) (ev_tupO (ρ := [.fr (.lst (ns.map .int)), .own (rs.map rowT), .own b2, c3, .no, .no, .no]) (i := 1) rfl) (by decide)
  obtain ⟨a1, a2⟩ := hsp rs sm h8
  have hA := had rs sm h8
  have hH := hhad rs sm h8
  cases hD : dimsB rs with
  | true =>
    obtain ⟨g, e⟩ := good_of hD
    rw [dims_eq, hD] at hA
    refine rel_rt (ds := [.lst (ns.map .int)]) ⟨_, ex_seq s1 (ex_seq s2 (ex_seq s3 (ex_seq s4 (ex_seq (ex_tryN (o := .nx [.fr (.lst (ns.map .int)), .own (rs.map rowT), .own b2, c3, .fr (rowsD rs), .fr (.ins C (spF (rs.map dm))), .no]) fun W => ex_set (i := 5) (ev_makeX (ds := [rowsD rs]) (ag_cons (ev_var (i := 4) rfl) ag_nil) (a1 hD)) (by decide)) (ex_ret (ev_is (ev_andV (b := true) (c := true) (ev_callF (ds := [rowsD rs]) (ag_cons (ev_var (i := 4) rfl) ag_nil) hA) fun _ => ?_) rfl))))))⟩
    obtain ⟨r, cs', h, rfl, rfl⟩ := hs [.fr (rowsD rs), .fr (rowsD rs)] ⟨_, rfl, by rw [← e]; exact plain_dims g⟩
    exact ev_callF (ds := [rowsD rs, rowsD rs]) (ag_cons (ev_is (ev_fld (fs := spF (rs.map dm)) c (na "dimensions" (by decide)) (ev_var (i := 5) rfl) (by rfl)) e) (ag_cons (ev_var (i := 4) rfl) ag_nil)) h
  | false =>
    rw [dims_eq, hD] at hH
    refine rel_rt (ds := [.lst (ns.map .int)]) ⟨_, ex_seq s1 (ex_seq s2 (ex_seq s3 (ex_seq s4 (ex_seqR (ex_tryX (ρ1 := [.fr (.lst (ns.map .int)), .own (rs.map rowT), .own b2, c3, .fr (rowsD rs), .no, .no]) (o := .rt [.fr (.lst (ns.map .int)), .own (rs.map rowT), .own b2, c3, .fr (rowsD rs), .no, .no] (.fr (.bl true))) (fun W => xx_asg (evx_make (ds := [rowsD rs]) (ag_cons (ev_var (i := 4) rfl) ag_nil) (a2 hD))) em (by decide) (by show 6 < 7; decide) fun a d => su_ret (ee_andV (b := true) (c := true) (ee_isG k1) fun _ => ee_andV (b := true) (c := true) (ee_isT k2) fun _ => ee_not (b := false) (ee_call1 (ee_of (ev_var (i := 4) rfl)) hH)))))))⟩
end
end K03
end Z

set_option Elab.async false
set_option linter.all false
set_option maxRecDepth 100000
set_option maxHeartbeats 2000000
/-! ZDcS: a name set to a dict comprehension on one line. -/
namespace L2
open PySem PySem.Spec PyProof.Rows
section
variable {X : Cx}
theorem sw_trueD {kx vx : Expr} {gs : List Comprehension} {scope : Scope} {pos py : Pos} {y : Str} {l : Nat} {env : Env} (hk : env.scope.kind = .function) (hy : env.scope.names.lookup y = some .local) (hl : (py.line == pos.line) = true)
    (ha : (scope.names.any fun (n, k) => n == y && (k == .local || k == .cell)) = false) : swapsWith (.DictComp kx vx gs scope pos) (some (.Name y py)) l env = pure true := by
  have ky : env.kindOf y = some .local := hy
  have hb : env.blockKind = .function := by unfold Env.blockKind; rw [hk]; rfl
  unfold swapsWith
  simp only [hb, ky, ha, Expr.pos, hl]
  rfl
theorem ps_setDc {i : Nat} {y : Str} {py : Pos} {kx vx tg iter : Expr} {ifs : List Expr} {scope : Scope} {own : List (Str × Nat)} {pos spos : Pos} {wi : TI} {g : TG} {tt : TT} {tk tv : TE} (hc : X.calm = true) (hN : X.N.Nodup) (hy : X.N[i]? = some y) (hyl : X.env.scope.names.lookup y = some .local)
    (hsw : swapsWith (.DictComp kx vx [⟨tg, iter, ifs, 0⟩] scope pos) (some (.Name y py)) spos.line X.env = pure true) (hi : PI X tg iter wi) (ok : BlkOk X.N X.env.scope scope own)
    (hg : ∀ (s : Shared) (H : Hp) (C : Addr) (cl : List (Str × Addr)) (fp : List Addr), PG (X.blk s H scope (compEnvC scope cl C X.env) fp) tg g) (ht : ∀ (s : Shared) (H : Hp) (C : Addr) (cl : List (Str × Addr)) (fp : List Addr), PTs (X.blk s H scope (compEnvC scope cl C X.env) fp) ifs tt)
    (hk : ∀ (s : Shared) (H : Hp) (C : Addr) (cl : List (Str × Addr)) (fp : List Addr), PE (X.blk s H scope (compEnvC scope cl C X.env) fp) kx tk)
    (he : ∀ (s : Shared) (H : Hp) (C : Addr) (cl : List (Str × Addr)) (fp : List Addr), PE (X.blk s H scope (compEnvC scope cl C X.env) fp) vx tv) (hs : ∀ x, foldedSetIterable iter X.env x = pure x := by intro _; rfl) :
    PS X (.Assign [.Name y py] (.DictComp kx vx [⟨tg, iter, ifs, 0⟩] scope pos) spos) (tAsg (tDc wi g tt tk tv (own.map (·.2))) (gName i)) := by
  refine ⟨fun pins s σ H D I h => ?_⟩
  rw [exec_Assign_Name_used _ _ _ _ hsw]
  refine wpAny_bind (wpAny_standAt (wpAny_bind ?_))
  show wpAny _ X.A (do let _ ← comprehension (.DictComp kx vx [⟨tg, iter, ifs, 0⟩] scope pos) scope X.env (firstIterPos [⟨tg, iter, ifs, 0⟩] pos) newDict false (eval iter X.env) (some (assign (.Name y py) X.env))) _ _ s
  have h : tDc wi g tt tk tv (own.map (·.2)) σ H (fun x H1 => gName i x σ H1 D.nx) := h
  refine wpAny_bind (thn (dc_core (Qf := fun _ s' => SP X pins D .next s') hc hN I hi ok hg ht hk he hs h fun L C s' m H' I' q hn f => ?_) fun _ s' hq => wpAny_pure (wpAny_pure hq))
  show wpAny _ _ (assign (.Name y py) X.env (.ref L)) _ _ _
  refine wpAny_assign_Name (store_ok2 (v := V.ref L) I' hN hy (.inl hyl) rfl (fun s2 I2 ⟨a, sb, ha⟩ => ?_) (.inr hyl))
  obtain ⟨f0, f1, f2, f3, f4, f5⟩ := f
  have haC : C ≠ a := by
    rcases ha with z | z
    · rw [z]; exact f1
    · exact fun e => f4 y a z e.symm
  refine ⟨m, hn.sameBut sb haC, fun h3 sb3 => ?_⟩
  exact ⟨_, H', I2.turned (t' := s2.toks) (fun b o hb e => (sb3.2 b hb).trans e) f0 f1 f3 f4 f5, q⟩
end
theorem hu_of1 {A : Around} {k : Nat} (hr : Room k A) : A.units < cLine := Nat.lt_of_succ_lt (hu_of hr)
end L2

set_option Elab.async false
set_option linter.all false
set_option maxRecDepth 100000
set_option maxHeartbeats 2000000
/-! ZHotL: lists, tuples and texts walked where an exception is at hand. -/
namespace L2H
open PySem PySem.Spec PyProof.Rows L2 HotX
section
variable {prog : Program} {w : World} {A : Around} {E : Value → Shared → Prop} {s : Shared}
/-- the end of a list's iterator -/
theorem list_over {p l x1 : Addr} {k : Nat} {xs : Array Value} {Q : Option Value → Shared → Prop} (hot : HotAt A x1 s.heap) (far : x1 ≠ p) (hp : s.heap.IsListIter p l k) (hl : s.heap.IsList l xs) (no : xs[k]? = none)
    (q : ∀ g, (∀ b o, b ≠ p → s.heap.get? b = some o → g.get? b = some o) → Q none { s with heap := g }) : wpAny (model prog w) A (pyNext (.ref p)) Q E s := by
  obtain ⟨hh, o1, v1, g1, d1, c1⟩ := hot
  have ty := hp.typeIs
  obtain ⟨op, gp, cp, dp⟩ := id hp
  obtain ⟨ol, gl, _, nl, dl⟩ := hl
  unfold pyNext
  refine wpAny_bind (wpAny_attempt (wpAny_callSpecial?_slot (name := Str.ofString "__next__") ty slot_listiter_next (wpAny_call_entry slot_listiter_next ty entry_listiter_next ?body (args_listiter_next _))))
  case body =>
    refine (show wpAny _ _ (field (.ref p) 0 >>= fun t1 => _) _ _ s from wpAny_bind (wpAny_field gp dp (x := .ref l) rfl ?_))
    rw [if_neg (show ¬ ((Value.ref l == Value.none) = true) by exact Bool.false_ne_true)]
    refine (show wpAny _ _ (field (.ref p) 1 >>= fun t2 => _) _ _ s from wpAny_bind (wpAny_field gp dp (x := .int k 0) rfl ?_))
    refine (show wpAny _ _ (seqItems? (.ref l) >>= fun t3 => _) _ _ s from wpAny_bind (wpAny_seqItems gl dl ?_))
    simp only [no, Int.toNat_natCast]
    refine wpAny_bind (wpAny_rule (wpAny_bind (wpAny_setField (s := s) gp dp (by simp) ?_)))
    have f1 := (Heap.get?_update_other (s.heap) (Obj.mapFields (·.setIfInBounds 0 Value.none)) far.symm).trans g1
    refine (show wpAny _ _ (newExc (.type "StopIteration") [] >>= fun t4 => _) _ _ _ from wpAny_bind ?_)
    simp only [newTuple, newExc]
    refine wpAny_bind (wpAny_newObj_type ?_ (by size_fits))
    refine wpAny_bind (m := firstArgMember _ _) (wpAny_of_eq (a := .none) (by first | rfl | (simp only [firstArgMember]; rfl)) (wpAny_newObj_type ?_ (by size_fits)))
    refine raiseNew_hot ⟨hh, o1, v1, Heap.get?_push_of_some _ (Heap.get?_push_of_some _ f1), d1, c1⟩ (Nat.ne_of_lt (Heap.lt_size (Heap.get?_push_of_some _ f1))) (Heap.get?_push_size _ rfl) rfl (by first | (simp; done) | (simp; omega)) ?_
    refine wpAny_bind (wpAny_isInstance (T := "StopIteration") (b := true) ⟨_, Heap.get?_update_self _ (Heap.get?_push_size _ rfl) rfl, rfl⟩ isSubtype_stop (wpAny_pure (q _ fun b o nb e => ?_)))
    have e2 := (Heap.get?_update_other (s.heap) (Obj.mapFields (·.setIfInBounds 0 Value.none)) nb.symm).trans e
    rw [Heap.get?_update_other _ _ (Nat.ne_of_gt (Heap.lt_size (Heap.get?_push_of_some _ e2)))]
    exact Heap.get?_push_of_some _ (Heap.get?_push_of_some _ e2)
/-- the end of a tuple's iterator -/
theorem tuple_over {p l x1 : Addr} {k : Nat} {xs : Array Value} {Q : Option Value → Shared → Prop} (hot : HotAt A x1 s.heap) (far : x1 ≠ p) (hp : s.heap.IsTupleIter p l k) (hl : s.heap.IsTuple l xs) (no : xs[k]? = none)
    (q : ∀ g, (∀ b o, b ≠ p → s.heap.get? b = some o → g.get? b = some o) → Q none { s with heap := g }) : wpAny (model prog w) A (pyNext (.ref p)) Q E s := by
  obtain ⟨hh, o1, v1, g1, d1, c1⟩ := hot
  have ty := hp.typeIs
  obtain ⟨op, gp, cp, dp⟩ := id hp
  obtain ⟨ol, gl, _, nl, dl⟩ := hl
  unfold pyNext
  refine wpAny_bind (wpAny_attempt (wpAny_callSpecial?_slot (name := Str.ofString "__next__") ty F.slot_tuple_iterator_next (wpAny_call_entry F.slot_tuple_iterator_next ty F.entry_tuple_iterator_next ?body (F.args_tuple_iterator_next_1 _))))
  case body =>
    refine (show wpAny _ _ (field (.ref p) 0 >>= fun t1 => _) _ _ s from wpAny_bind (wpAny_field gp dp (x := .ref l) rfl ?_))
    rw [if_neg (show ¬ ((Value.ref l == Value.none) = true) by exact Bool.false_ne_true)]
    refine (show wpAny _ _ (field (.ref p) 1 >>= fun t2 => _) _ _ s from wpAny_bind (wpAny_field gp dp (x := .int k 0) rfl ?_))
    refine (show wpAny _ _ (seqItems? (.ref l) >>= fun t3 => _) _ _ s from wpAny_bind (wpAny_seqItems gl dl ?_))
    simp only [no, Int.toNat_natCast]
    refine wpAny_bind (wpAny_rule (wpAny_bind (wpAny_setField (s := s) gp dp (by simp) ?_)))
    have f1 := (Heap.get?_update_other (s.heap) (Obj.mapFields (·.setIfInBounds 0 Value.none)) far.symm).trans g1
    refine (show wpAny _ _ (newExc (.type "StopIteration") [] >>= fun t4 => _) _ _ _ from wpAny_bind ?_)
    simp only [newTuple, newExc]
    refine wpAny_bind (wpAny_newObj_type ?_ (by size_fits))
    refine wpAny_bind (m := firstArgMember _ _) (wpAny_of_eq (a := .none) (by first | rfl | (simp only [firstArgMember]; rfl)) (wpAny_newObj_type ?_ (by size_fits)))
    refine raiseNew_hot ⟨hh, o1, v1, Heap.get?_push_of_some _ (Heap.get?_push_of_some _ f1), d1, c1⟩ (Nat.ne_of_lt (Heap.lt_size (Heap.get?_push_of_some _ f1))) (Heap.get?_push_size _ rfl) rfl (by first | (simp; done) | (simp; omega)) ?_
    refine wpAny_bind (wpAny_isInstance (T := "StopIteration") (b := true) ⟨_, Heap.get?_update_self _ (Heap.get?_push_size _ rfl) rfl, rfl⟩ isSubtype_stop (wpAny_pure (q _ fun b o nb e => ?_)))
    have e2 := (Heap.get?_update_other (s.heap) (Obj.mapFields (·.setIfInBounds 0 Value.none)) nb.symm).trans e
    rw [Heap.get?_update_other _ _ (Nat.ne_of_gt (Heap.lt_size (Heap.get?_push_of_some _ e2)))]
    exact Heap.get?_push_of_some _ (Heap.get?_push_of_some _ e2)
/-- the end of a text's iterator -/
theorem ascii_over {p x1 : Addr} {x : Str} {t : Tok} {k : Nat} {Q : Option Value → Shared → Prop} (hot : HotAt A x1 s.heap) (far : x1 ≠ p) (hp : s.heap.IsStrIter p "str_ascii_iterator" x t k) (no : x.cps[k]? = none)
    (q : ∀ g, (∀ b o, b ≠ p → s.heap.get? b = some o → g.get? b = some o) → Q none { s with heap := g }) : wpAny (model prog w) A (pyNext (.ref p)) Q E s := by
  obtain ⟨hh, o1, v1, g1, d1, c1⟩ := hot
  have ty := hp.typeIs
  obtain ⟨op, gp, cp, dp⟩ := id hp
  unfold pyNext
  refine wpAny_bind (wpAny_attempt (wpAny_callSpecial?_slot (name := Str.ofString "__next__") ty F.slot_str_ascii_iterator_next (wpAny_call_entry F.slot_str_ascii_iterator_next ty F.entry_str_ascii_iterator_next ?body (F.args_str_ascii_iterator_next_1 _))))
  case body =>
    refine (show wpAny _ _ (field (.ref p) 0 >>= fun t1 => _) _ _ s from wpAny_bind (wpAny_field gp dp (x := .str x t) rfl ?_))
    refine (show wpAny _ _ (field (.ref p) 1 >>= fun t2 => _) _ _ s from wpAny_bind (wpAny_field gp dp (x := .int k 0) rfl ?_))
    simp only [no, Int.toNat_natCast]
    refine wpAny_bind (wpAny_rule (wpAny_bind (wpAny_setField (s := s) gp dp (by simp) (wpAny_bind (wpAny_letGo ?_)))))
    have f1 := (Heap.get?_update_other (s.heap) (Obj.mapFields (·.setIfInBounds 0 Value.none)) far.symm).trans g1
    refine (show wpAny _ _ (newExc (.type "StopIteration") [] >>= fun t4 => _) _ _ _ from wpAny_bind ?_)
    simp only [newTuple, newExc]
    refine wpAny_bind (wpAny_newObj_type ?_ (by size_fits))
    refine wpAny_bind (m := firstArgMember _ _) (wpAny_of_eq (a := .none) (by first | rfl | (simp only [firstArgMember]; rfl)) (wpAny_newObj_type ?_ (by size_fits)))
    refine raiseNew_hot ⟨hh, o1, v1, Heap.get?_push_of_some _ (Heap.get?_push_of_some _ f1), d1, c1⟩ (Nat.ne_of_lt (Heap.lt_size (Heap.get?_push_of_some _ f1))) (Heap.get?_push_size _ rfl) rfl (by first | (simp; done) | (simp; omega)) ?_
    refine wpAny_bind (wpAny_isInstance (T := "StopIteration") (b := true) ⟨_, Heap.get?_update_self _ (Heap.get?_push_size _ rfl) rfl, rfl⟩ isSubtype_stop (wpAny_pure (q _ fun b o nb e => ?_)))
    have e2 := (Heap.get?_update_other (s.heap) (Obj.mapFields (·.setIfInBounds 0 Value.none)) nb.symm).trans e
    rw [Heap.get?_update_other _ _ (Nat.ne_of_gt (Heap.lt_size (Heap.get?_push_of_some _ e2)))]
    exact Heap.get?_push_of_some _ (Heap.get?_push_of_some _ e2)
/-- the end of a wide text's iterator -/
theorem wide_over {p x1 : Addr} {x : Str} {t : Tok} {k : Nat} {Q : Option Value → Shared → Prop} (hot : HotAt A x1 s.heap) (far : x1 ≠ p) (hp : s.heap.IsStrIter p "str_iterator" x t k) (no : x.cps[k]? = none)
    (q : ∀ g, (∀ b o, b ≠ p → s.heap.get? b = some o → g.get? b = some o) → Q none { s with heap := g }) : wpAny (model prog w) A (pyNext (.ref p)) Q E s := by
  obtain ⟨hh, o1, v1, g1, d1, c1⟩ := hot
  have ty := hp.typeIs
  obtain ⟨op, gp, cp, dp⟩ := id hp
  unfold pyNext
  refine wpAny_bind (wpAny_attempt (wpAny_callSpecial?_slot (name := Str.ofString "__next__") ty F.slot_str_iterator_next (wpAny_call_entry F.slot_str_iterator_next ty F.entry_str_iterator_next ?body (F.args_str_iterator_next_1 _))))
  case body =>
    refine (show wpAny _ _ (field (.ref p) 0 >>= fun t1 => _) _ _ s from wpAny_bind (wpAny_field gp dp (x := .str x t) rfl ?_))
    refine (show wpAny _ _ (field (.ref p) 1 >>= fun t2 => _) _ _ s from wpAny_bind (wpAny_field gp dp (x := .int k 0) rfl ?_))
    simp only [no, Int.toNat_natCast]
    refine wpAny_bind (wpAny_rule (wpAny_bind (wpAny_setField (s := s) gp dp (by simp) (wpAny_bind (wpAny_letGo ?_)))))
    have f1 := (Heap.get?_update_other (s.heap) (Obj.mapFields (·.setIfInBounds 0 Value.none)) far.symm).trans g1
    refine (show wpAny _ _ (newExc (.type "StopIteration") [] >>= fun t4 => _) _ _ _ from wpAny_bind ?_)
    simp only [newTuple, newExc]
    refine wpAny_bind (wpAny_newObj_type ?_ (by size_fits))
    refine wpAny_bind (m := firstArgMember _ _) (wpAny_of_eq (a := .none) (by first | rfl | (simp only [firstArgMember]; rfl)) (wpAny_newObj_type ?_ (by size_fits)))
    refine raiseNew_hot ⟨hh, o1, v1, Heap.get?_push_of_some _ (Heap.get?_push_of_some _ f1), d1, c1⟩ (Nat.ne_of_lt (Heap.lt_size (Heap.get?_push_of_some _ f1))) (Heap.get?_push_size _ rfl) rfl (by first | (simp; done) | (simp; omega)) ?_
    refine wpAny_bind (wpAny_isInstance (T := "StopIteration") (b := true) ⟨_, Heap.get?_update_self _ (Heap.get?_push_size _ rfl) rfl, rfl⟩ isSubtype_stop (wpAny_pure (q _ fun b o nb e => ?_)))
    have e2 := (Heap.get?_update_other (s.heap) (Obj.mapFields (·.setIfInBounds 0 Value.none)) nb.symm).trans e
    rw [Heap.get?_update_other _ _ (Nat.ne_of_gt (Heap.lt_size (Heap.get?_push_of_some _ e2)))]
    exact Heap.get?_push_of_some _ (Heap.get?_push_of_some _ e2)
end
theorem hot_far {X : Cx} {pins : List (Addr × Obj)} {σ : St} {H : Hp} {s : Shared} {it : Addr} (c : HotC X) (I : Inv X pins σ H s) (f5 : ∀ p ∈ X.pn ++ pins, p.1 ≠ it) : ∃ x1, HotAt X.A x1 s.heap ∧ x1 ≠ it := by
  obtain ⟨p, ⟨h1, vs, d, e⟩, hp⟩ := c
  exact ⟨p.1, ⟨h1, p.2, vs, (I.pin p (List.mem_append_left _ hp)).1, d, e⟩, f5 p (List.mem_append_left _ hp)⟩
theorem turn_listH {P : Program} {w : World} {K : PySem.W.Frag} {tg : Expr} (a it : Addr) : TurnH P w K tg (Itl K a) [it] it (fun i h => h.IsListIter it a i) where
  mem := List.mem_singleton.mpr rfl
  obj := fun i h st b hb => by
    rw [List.mem_singleton.mp hb]
    obtain ⟨o, e, c, d⟩ := st
    exact ⟨o, e, fun v z => by rw [d] at z; exact absurd z (by simp)⟩
  keep := fun i h h' st k => st.at fun o e => k it (List.mem_singleton.mpr rfl) o e
  item := fun X hP hw hK hc i pins s σ H E I hf st hg => by
    cases hP; cases hw; cases hK
    obtain ⟨f0, f1, f2, f3, f4, f5⟩ := hf it (List.mem_singleton.mpr rfl)
    obtain ⟨xs, x, hq, hx⟩ := hg
    obtain ⟨its, rv, p, hz⟩ := I.list hq
    obtain ⟨u, hu, ru⟩ := rv.get hx
    have hu' : its.toArray[i]? = some u := by simpa using hu
    exact wpAny_pyNext_list_item st p.isList hu' fun g st' sb => by
      have J1 : Inv X pins σ H { s with heap := g } := I.turned (t' := s.toks) (fun b o hb e => (sb.2 b hb).trans e) f0 f1 f3 f4 f5
      obtain ⟨oo, e, c, d⟩ := id st'
      exact ⟨u, rfl, go_of (s := { s with heap := g }) e c d (by decide) ⟨x, H, J1, ru, ⟨rfl, fun ys hy => by rw [I.list_inj hy hq]; exact hx⟩, st', fun b hb => (hf b hb).1⟩⟩
  done := fun X hP hw hK hc i pins s σ H E I hf st hg => by
    cases hP; cases hw; cases hK
    obtain ⟨f0, f1, f2, f3, f4, f5⟩ := hf it (List.mem_singleton.mpr rfl)
    obtain ⟨x1, hot, nx⟩ := hot_far hc I f5
    obtain ⟨xs, hq, hx⟩ := hg
    obtain ⟨its, rv, p, hz⟩ := I.list hq
    have hl := rv.length
    exact list_over hot nx st p.isList (by simp; omega) fun g eb => ⟨rfl, I.turned (t' := s.toks) (fun b o hb e => eb b o hb e) f0 f1 f3 f4 f5⟩
  self := fun A i s Q E st h => wpAny_pyIter_listiter st h
theorem turn_tupleH {P : Program} {w : World} {K : PySem.W.Frag} {tg : Expr} (a it : Addr) : TurnH P w K tg (Itt K a) [it] it (fun i h => h.IsTupleIter it a i) where
  mem := List.mem_singleton.mpr rfl
  obj := fun i h st b hb => by
    rw [List.mem_singleton.mp hb]
    obtain ⟨o, e, c, d⟩ := st
    exact ⟨o, e, fun v z => by rw [d] at z; exact absurd z (by simp)⟩
  keep := fun i h h' st k => st.at fun o e => k it (List.mem_singleton.mpr rfl) o e
  item := fun X hP hw hK hc i pins s σ H E I hf st hg => by
    cases hP; cases hw; cases hK
    obtain ⟨f0, f1, f2, f3, f4, f5⟩ := hf it (List.mem_singleton.mpr rfl)
    obtain ⟨xs, x, hq, hx⟩ := hg
    obtain ⟨its, rv, p, hz⟩ := I.tuple hq
    obtain ⟨u, hu, ru⟩ := rv.get hx
    have hu' : its.toArray[i]? = some u := by simpa using hu
    exact wpAny_pyNext_tuple_item st (show s.heap.IsTuple a its.toArray from p) hu' fun g st' sb => by
      have J1 : Inv X pins σ H { s with heap := g } := I.turned (t' := s.toks) (fun b o hb e => (sb.2 b hb).trans e) f0 f1 f3 f4 f5
      obtain ⟨oo, e, c, d⟩ := id st'
      exact ⟨u, rfl, go_of (s := { s with heap := g }) e c d (by decide) ⟨x, H, J1, ru, ⟨rfl, fun ys hy => by rw [I.tuple_inj hy hq]; exact hx⟩, st', fun b hb => (hf b hb).1⟩⟩
  done := fun X hP hw hK hc i pins s σ H E I hf st hg => by
    cases hP; cases hw; cases hK
    obtain ⟨f0, f1, f2, f3, f4, f5⟩ := hf it (List.mem_singleton.mpr rfl)
    obtain ⟨x1, hot, nx⟩ := hot_far hc I f5
    obtain ⟨xs, hq, hx⟩ := hg
    obtain ⟨its, rv, p, hz⟩ := I.tuple hq
    have hl := rv.length
    exact tuple_over hot nx st (show s.heap.IsTuple a its.toArray from p) (by simp; omega) fun g eb => ⟨rfl, I.turned (t' := s.toks) (fun b o hb e => eb b o hb e) f0 f1 f3 f4 f5⟩
  self := fun A i s Q E st h => wpAny_pyIter_tupleiter st h
theorem turn_asciiH {P : Program} {w : World} {K : PySem.W.Frag} {tg : Expr} (it : Addr) (x : Str) (t : Tok) : TurnH P w K tg (Its x) [it] it (fun i h => h.IsStrIter it "str_ascii_iterator" x t i) where
  mem := List.mem_singleton.mpr rfl
  obj := fun i h st b hb => by
    rw [List.mem_singleton.mp hb]
    obtain ⟨o, e, c, d⟩ := st
    exact ⟨o, e, fun v z => by rw [d] at z; exact absurd z (by simp)⟩
  keep := fun i h h' st k => by
    obtain ⟨o, ho, r⟩ := st
    exact ⟨o, k it (List.mem_singleton.mpr rfl) o ho, r⟩
  item := fun X hP hw hK hc i pins s σ H E I hf st hg => by
    cases hP; cases hw; cases hK
    obtain ⟨f0, f1, f2, f3, f4, f5⟩ := hf it (List.mem_singleton.mpr rfl)
    have lt : i < x.cps.size := hg
    exact wpAny_pyNext_ascii_item st (c := x.cps[i]) (by simp [lt]) fun g st' sb => by
      have J1 : Inv X pins σ H { s with heap := g, toks := s.toks + 1 } := I.turned (fun b o hb e => (sb.2 b hb).trans e) f0 f1 f3 f4 f5
      obtain ⟨oo, e, c, d⟩ := id st'
      exact ⟨_, rfl, go_of (s := { s with heap := g, toks := s.toks + 1 }) e c d (by decide) ⟨.str ⟨#[x.cps[i]]⟩, H, J1, ⟨_, rfl⟩, ⟨rfl, _, by simp [lt], rfl⟩, st', fun b hb => (hf b hb).1⟩⟩
  done := fun X hP hw hK hc i pins s σ H E I hf st hg => by
    cases hP; cases hw; cases hK
    obtain ⟨f0, f1, f2, f3, f4, f5⟩ := hf it (List.mem_singleton.mpr rfl)
    obtain ⟨x1, hot, nx⟩ := hot_far hc I f5
    exact ascii_over hot nx st (Array.getElem?_eq_none hg) fun g eb => ⟨rfl, I.turned (t' := s.toks) (fun b o hb e => eb b o hb e) f0 f1 f3 f4 f5⟩
  self := fun A i s Q E st h => wpAny_pyIter_striter_ascii st h
theorem turn_wideH {P : Program} {w : World} {K : PySem.W.Frag} {tg : Expr} (it : Addr) (x : Str) (t : Tok) : TurnH P w K tg (Its x) [it] it (fun i h => h.IsStrIter it "str_iterator" x t i) where
  mem := List.mem_singleton.mpr rfl
  obj := fun i h st b hb => by
    rw [List.mem_singleton.mp hb]
    obtain ⟨o, e, c, d⟩ := st
    exact ⟨o, e, fun v z => by rw [d] at z; exact absurd z (by simp)⟩
  keep := fun i h h' st k => by
    obtain ⟨o, ho, r⟩ := st
    exact ⟨o, k it (List.mem_singleton.mpr rfl) o ho, r⟩
  item := fun X hP hw hK hc i pins s σ H E I hf st hg => by
    cases hP; cases hw; cases hK
    obtain ⟨f0, f1, f2, f3, f4, f5⟩ := hf it (List.mem_singleton.mpr rfl)
    have lt : i < x.cps.size := hg
    exact wpAny_pyNext_wide_item st (c := x.cps[i]) (by simp [lt]) fun g st' sb => by
      have J1 : Inv X pins σ H { s with heap := g, toks := s.toks + 1 } := I.turned (fun b o hb e => (sb.2 b hb).trans e) f0 f1 f3 f4 f5
      obtain ⟨oo, e, c, d⟩ := id st'
      exact ⟨_, rfl, go_of (s := { s with heap := g, toks := s.toks + 1 }) e c d (by decide) ⟨.str ⟨#[x.cps[i]]⟩, H, J1, ⟨_, rfl⟩, ⟨rfl, _, by simp [lt], rfl⟩, st', fun b hb => (hf b hb).1⟩⟩
  done := fun X hP hw hK hc i pins s σ H E I hf st hg => by
    cases hP; cases hw; cases hK
    obtain ⟨f0, f1, f2, f3, f4, f5⟩ := hf it (List.mem_singleton.mpr rfl)
    obtain ⟨x1, hot, nx⟩ := hot_far hc I f5
    exact wide_over hot nx st (Array.getElem?_eq_none hg) fun g eb => ⟨rfl, I.turned (t' := s.toks) (fun b o hb e => eb b o hb e) f0 f1 f3 f4 f5⟩
  self := fun A i s Q E st h => wpAny_pyIter_striter_wide st h
section
variable {X : Cx} {tg : Expr}
theorem pi_listH {l : Expr} {tl : TE} (hl : PE X l tl) : PIH X tg l (iList X.K tl) := ⟨fun pins s σ H R I h => thn (hl.run pins s σ H _ I h) fun v s1 ⟨x, H1, I1, r1, q1⟩ => by
  obtain ⟨a, rfl, ⟨xs, hq⟩, q⟩ := q1
  cases r1
  obtain ⟨its, rv, p, hz⟩ := I1.list hq
  refine wpAny_pyIter_list p.isList ?_
  exact ⟨s1.heap.objs.size, [s1.heap.objs.size], _, _, H1, rfl, I1.kept (t' := s1.toks) fun b o e => Heap.get?_push_of_some _ e, turn_listH a _, ⟨_, Heap.get?_push_size _ rfl, rfl, rfl⟩, fun b hb => by
    rw [List.mem_singleton.mp hb]
    exact I1.fpOk (Nat.le_refl _) (I1.hok.fresh (Nat.le_refl _)), q⟩⟩
theorem pi_tupH {l : Expr} {tl : TE} (hl : PE X l tl) : PIH X tg l (iTup X.K tl) := ⟨fun pins s σ H R I h => thn (hl.run pins s σ H _ I h) fun v s1 ⟨x, H1, I1, r1, q1⟩ => by
  obtain ⟨a, rfl, ⟨xs, hq⟩, q⟩ := q1
  cases r1
  obtain ⟨its, rv, p, hz⟩ := I1.tuple hq
  refine wpAny_pyIter_tuple (show s1.heap.IsTuple a its.toArray from p) ?_
  exact ⟨s1.heap.objs.size, [s1.heap.objs.size], _, _, H1, rfl, I1.kept (t' := s1.toks) fun b o e => Heap.get?_push_of_some _ e, turn_tupleH a _, ⟨_, Heap.get?_push_size _ rfl, rfl, rfl⟩, fun b hb => by
    rw [List.mem_singleton.mp hb]
    exact I1.fpOk (Nat.le_refl _) (I1.hok.fresh (Nat.le_refl _)), q⟩⟩
theorem one_str {pins : List (Addr × Obj)} {σ : St} {H : Hp} {s : Shared} {R : It → Hp → Prop} {J : It} {ob : Obj} {tn : Nat → Heap → Prop} (I : Inv X pins σ H s) (T : TurnH X.prog X.w X.K tg J [s.heap.objs.size] s.heap.objs.size tn) (t0 : tn 0 (s.heap.push ob)) (q : R J H) : PIEH X pins σ tg R (.ref s.heap.objs.size) { s with heap := s.heap.push ob } :=
  ⟨_, _, tn, J, H, rfl, I.kept (t' := s.toks) fun b o e => Heap.get?_push_of_some _ e, T, t0, fun b hb => by
    rw [List.mem_singleton.mp hb]
    exact I.fpOk (Nat.le_refl _) (I.hok.fresh (Nat.le_refl _)), q⟩
theorem pi_strH {e : Expr} {te : TE} (he : PE X e te) : PIH X tg e (iStr te) := ⟨fun pins s σ H R I h => thn (he.run pins s σ H _ I h) fun v s1 ⟨y, H1, I1, r1, x, ex, q⟩ => by
  subst ex
  obtain ⟨t, rfl⟩ := r1
  cases ha : x.cps.all (· < 128) with
  | false => exact wpAny_pyIter_wide ha (one_str I1 (turn_wideH _ x t) ⟨_, Heap.get?_push_size _ rfl, rfl, rfl⟩ q)
  | true => exact wpAny_pyIter_ascii ha (one_str I1 (turn_asciiH _ x t) ⟨_, Heap.get?_push_size _ rfl, rfl, rfl⟩ q)⟩
end
end L2H

set_option Elab.async false
set_option linter.all false
set_option maxRecDepth 100000
set_option maxHeartbeats 2000000
/-! ZHotC: list comprehensions where an exception is at hand. The block bears the exception's pin. -/
namespace L2H
open PySem PySem.Spec PyProof.Rows L2 HotX
section
variable {X : Cx}
/-- a comprehension's block that bears a pin -/
abbrev blkP (X : Cx) (s : Shared) (H : Hp) (scope : Scope) (cenv : Env) (fp : List Addr) (p : Addr × Obj) : Cx := (X.blk s H scope cenv fp).tr [p] (fun _ _ => False)
theorem not_stk {pins : List (Addr × Obj)} {σ : St} {H : Hp} {s : Shared} (I : Inv X pins σ H s) {a : Addr} (h1 : a ≠ X.env.locals) (h2 : a ∉ X.fs) : a ∉ frs X.stack := by
  rcases I.ok.stk with e | ⟨e, f⟩
  · rw [e]; exact h2
  · rw [e]
    unfold frs
    rw [List.filterMap_cons, f]
    exact fun m => (List.mem_cons.mp m).elim h1 h2
/-- the block's start, with the pin -/
theorem block_hot {pins : List (Addr × Obj)} {σ : St} {H : Hp} {s : Shared} {scope : Scope} {own : List (Str × Nat)} {fp : List Addr} {p : Addr × Obj} (I : Inv X pins σ H s) (hp : p ∈ X.pn) (ok : BlkOk X.N X.env.scope scope own) (nd : X.N.Nodup) (hf : ∀ b ∈ fp, FpOk X pins H b ∧ b < s.heap.objs.size) :
    Inv (blkP X s H scope (compEnvC scope (cellsFrom (s.heap.objs.size + 1) scope.names (cloFrom X.env.cells scope.names [])) s.heap.objs.size X.env) fp p) [] (L2.wipe σ (own.map (·.2))) H { s with heap := pushCells (s.heap.push { cls := .type "dict", data := .dict #[] }) scope.names } := by
  have B := block_start I ok nd hf
  obtain ⟨q1, q2, q3, q4, q5⟩ := I.pin p (List.mem_append_left _ hp)
  have B2 := B.pins_of (pins' := [p]) fun z hz => by
    rw [List.mem_singleton.mp ((List.nil_append [p] ▸ hz : z ∈ [p]))]
    refine ⟨pushCells_keeps _ _ _ _ (Heap.get?_push_of_some _ q1), q2, ?_, not_stk I q3 q4, q5⟩
    show p.1 ≠ s.heap.objs.size
    exact Nat.ne_of_lt (Heap.lt_size q1)
  exact B2.toTry (fun _ _ => False)

/-- the comprehension -/
theorem lc_hot {pins : List (Addr × Obj)} {s : Shared} {σ : St} {H : Hp} {Q : VK} {el tg src : Expr} {ifs : List Expr} {scope : Scope} {own : List (Str × Nat)} {pos pos' : Pos} {wi : TI} {g : TG} {tt : TT} {te : TE} {use : Option (Value → Sem Unit)} {Qf : Value → Shared → Prop}
    (hc : HotC X) (nd : X.N.Nodup) (I : Inv X pins σ H s) (hi : PIH X tg src wi) (ok : BlkOk X.N X.env.scope scope own)
    (hg : ∀ (s : Shared) (H : Hp) (C : Addr) (cl : List (Str × Addr)) (fp : List Addr) (p : Addr × Obj), Hot1 X.A p → PG (blkP X s H scope (compEnvC scope cl C X.env) fp p) tg g)
    (ht : ∀ (s : Shared) (H : Hp) (C : Addr) (cl : List (Str × Addr)) (fp : List Addr) (p : Addr × Obj), Hot1 X.A p → PTs (blkP X s H scope (compEnvC scope cl C X.env) fp p) ifs tt)
    (he : ∀ (s : Shared) (H : Hp) (C : Addr) (cl : List (Str × Addr)) (fp : List Addr) (p : Addr × Obj), Hot1 X.A p → PE (blkP X s H scope (compEnvC scope cl C X.env) fp p) el te) (fo : ∀ x, foldedSetIterable src X.env x = pure x)
    (h : tLc wi g tt te (own.map (·.2)) σ H Q)
    (back : ∀ D C s' m H', Inv X pins σ H' s' → Q (.ref D) H' → s'.heap.Ns C m → FpOk X pins H' C → compPost (model X.prog X.w) X.A X.xe use Qf (.ref D) C (.ok .next) s') :
    wpAny (model X.prog X.w) X.A (comprehension (.ListComp el [⟨tg, src, ifs, 0⟩] scope pos) scope X.env pos' (newList []) false (eval src X.env) use) Qf X.xe s := by
  obtain ⟨pp, hot, pin⟩ := hc
  have cells : ∀ y ∈ scope.names, y.2 = .free → ∃ c, X.env.cells.lookup y.1 = some c := fun y my e => (ok.free y my e).elim (fun k => I.ok.has _ (.inl k)) fun k => I.ok.has _ (.inr k)
  refine wpAny_comprehension_free (use := use) rfl fo (closure_ok cells) ok.kind (fun y my e => by rw [ok.uniq y my, e]) (thn (hi.run pins s σ H _ I h) fun xv s1 h1 => thn h1 fun itv s2 h2 => ?_)
  obtain ⟨it, fp, tn, J, H2, rfl, I2, T, t2, f2, q⟩ := h2
  refine wpAny_newObj_type (newEnv_comp ?_) (by show 0 ≤ sizeLine; decide)
  obtain ⟨W, ⟨m0, w0⟩, turn⟩ := q s2.heap.objs.size (I2.hok.fresh (Nat.le_refl _))
  -- with the new list
  have I3 : Inv X pins σ (upd H2 s2.heap.objs.size (.lst [])) { s2 with heap := s2.heap.push { cls := .type "list", data := .seq ([] : List Value).toArray } } :=
    I2.laid (t' := s2.toks) (fun b o e => Heap.get?_push_of_some _ e) (Nat.le_refl _) ⟨Nat.zero_le _, [], 0, .nil, Heap.get?_push_size _ rfl⟩
  have low : ∀ b ∈ fp, b < s2.heap.objs.size := fun b hb => let ⟨_, e, _⟩ := T.obj _ _ t2 b hb; Heap.lt_size e
  have f3 : ∀ b ∈ fp, FpOk X pins (upd H2 s2.heap.objs.size (.lst [])) b ∧ b < (s2.heap.push { cls := .type "list", data := .seq ([] : List Value).toArray }).objs.size := fun b hb => by
    refine ⟨⟨?_, (f2 b hb).2⟩, by rw [Heap.size_push]; exact Nat.lt_succ_of_lt (low b hb)⟩
    rw [upd_ne (Nat.ne_of_lt (low b hb))]
    exact (f2 b hb).1
  have t3 : tn 0 (s2.heap.push { cls := .type "list", data := .seq ([] : List Value).toArray }) := T.keep _ _ _ t2 fun b _ o e => Heap.get?_push_of_some _ e
  revert I3 f3 t3 w0 turn
  generalize hS : ({ s2 with heap := s2.heap.push { cls := .type "list", data := .seq ([] : List Value).toArray } } : Shared) = s3
  have hH : s2.heap.push { cls := .type "list", data := .seq ([] : List Value).toArray } = s3.heap := by rw [← hS]
  rw [hH]
  generalize s2.heap.objs.size = D
  generalize hH3 : upd H2 D (.lst []) = H3
  intro turn w0 I3 f3 t3
  have I4 := block_hot I3 pin ok nd f3
  have pg := hg s3 H3 s3.heap.objs.size (cellsFrom (s3.heap.objs.size + 1) scope.names (cloFrom X.env.cells scope.names [])) fp pp hot
  have pt := ht s3 H3 s3.heap.objs.size (cellsFrom (s3.heap.objs.size + 1) scope.names (cloFrom X.env.cells scope.names [])) fp pp hot
  have pe := he s3 H3 s3.heap.objs.size (cellsFrom (s3.heap.objs.size + 1) scope.names (cloFrom X.env.cells scope.names [])) fp pp hot
  refine (show codeAny _ _ (.compStart (.ListComp el [⟨tg, src, ifs, 0⟩] scope pos) 0 (.ref it) (.ref D) (compEnvC scope (cellsFrom (s3.heap.objs.size + 1) scope.names (cloFrom X.env.cells scope.names [])) s3.heap.objs.size X.env)) (compPost (model X.prog X.w) X.A X.xe use Qf (.ref D) s3.heap.objs.size) { s3 with heap := pushCells (s3.heap.push { cls := .type "dict", data := .dict #[] }) scope.names } from ?_)
  generalize hce : compEnvC scope (cellsFrom (s3.heap.objs.size + 1) scope.names (cloFrom X.env.cells scope.names [])) s3.heap.objs.size X.env = ce at I4 pg pt pe ⊢
  have cL : ce.locals = s3.heap.objs.size := by rw [← hce]; rfl
  have n3 : ∀ b ∈ fp, H3 b = none := fun b hb => (f3 b hb).1.1
  generalize hs4 : ({ s3 with heap := pushCells (s3.heap.push { cls := .type "dict", data := .dict #[] }) scope.names } : Shared) = s4 at I4 ⊢
  have t4 : tn 0 s4.heap := T.keep _ _ _ t3 fun b _ o e => by rw [← hs4]; exact pushCells_keeps _ _ _ _ (Heap.get?_push_of_some _ e)
  have hcY : HotC (blkP X s3 H3 scope ce fp pp) := ⟨pp, hot, List.mem_singleton.mpr rfl⟩
  have fps : ∀ {σ' : St} {H' : Hp} {s' : Shared}, Inv (blkP X s3 H3 scope ce fp pp) [] σ' H' s' → (∀ b ∈ fp, H' b = none) → ∀ b ∈ fp, FpOk (blkP X s3 H3 scope ce fp pp) [] H' b := fun {σ' H' s'} I' hn b hb =>
    ⟨hn b hb, (I'.ok.exf b hb).1, I'.ok.exfs b hb, .inl hb, fun x c e => (I'.ok.exf b hb).2 x c e, fun p hp => by
      have hp : p ∈ [pp] := by simpa using hp
      rw [List.mem_singleton.mp hp]
      exact (f3 b hb).1.2.2.2.2.2 pp (List.mem_append_left _ pin)⟩
  have loop : codeAny (model X.prog X.w) X.A (.compLoop (.ListComp el [⟨tg, src, ifs, 0⟩] scope pos) 0 (.ref it) (.ref D) ce) (compPost (model X.prog X.w) X.A X.xe use Qf (.ref D) s3.heap.objs.size) s4 := by
    refine compLoop_any (fun n s' => ∃ i H', Inv (blkP X s3 H3 scope ce fp pp) [] (L2.wipe σ (own.map (·.2))) H' s' ∧ tn i s'.heap ∧ (∀ b ∈ fp, H' b = none) ∧ W i n H') ?_ m0 ⟨0, H3, I4, t4, n3, w0⟩
    rintro n s5 ⟨i, H5, I5, t5, n5, w5⟩
    rcases turn i n H5 w5 with ⟨stop, fin⟩ | ⟨go, Nx, less, step⟩
    · refine thnF (T.done (blkP X s3 H3 scope ce fp pp) rfl rfl rfl hcY i [] s5 _ H5 (fun _ _ => False) I5 (fps I5 n5) t5 stop) fun r s6 ⟨hr, I6⟩ => ?_
      subst hr
      have I7 : Inv X pins σ H5 s6 := I3.call' (ch := fp) I6.os I6.base I6.hok I6.bare fun b hb => let f := (f3 b hb).1.2; ⟨f.2.2.1, f.1, f.2.2.2.1, f.2.2.2.2⟩
      have nC : H5 s3.heap.objs.size = none := by
        have z : H5 ce.locals = none := I6.free
        rwa [cL] at z
      obtain ⟨m, at_m, _⟩ := I6.loc
      have at_m : s6.heap.Ns ce.locals m := at_m
      rw [cL] at at_m
      exact back D s3.heap.objs.size s6 m H5 I7 fin at_m (I3.fpOk (Nat.le_refl _) nC)
    · refine thnF (T.item (blkP X s3 H3 scope ce fp pp) rfl rfl rfl hcY i [] s5 _ H5 (fun _ _ => False) I5 (fps I5 n5) t5 go) fun r s6 ⟨u, hr, h6⟩ => ?_
      subst hr
      refine thnF h6 fun _ s7 ⟨x, H7, I7, r7, y7, t7, n7⟩ => ?_
      refine thnF (pg.run _ s7 _ H7 x u _ (I7.pinned (fps I7 n7) (T.obj _ _ t7)) r7 (step x H7 y7)) fun _ s8 ⟨σ8, H8, I8, w8, q8⟩ => ?_
      refine thnF (pt.run _ s8 σ8 H8 _ I8 q8) fun b s9 ⟨H9, I9, q9⟩ => ?_
      have next : ∀ {s' : Shared} {H' : Hp}, Inv (blkP X s3 H3 scope ce fp pp) ([] ++ pinsAt fp s7.heap) σ8 H' s' → Nx H' → ∃ m, m < n ∧ ∃ i H', Inv (blkP X s3 H3 scope ce fp pp) [] (L2.wipe σ (own.map (·.2))) H' s' ∧ tn i s'.heap ∧ (∀ b ∈ fp, H' b = none) ∧ W i m H' := fun {s' H'} I' nx => by
        obtain ⟨m', lt, w'⟩ := less H' nx
        have stay : ∀ b ∈ fp, ∀ o, s7.heap.get? b = some o → s'.heap.get? b = some o ∧ H' b = none := fun b hb o e =>
          let z := I'.pin (b, o) (List.mem_append_right _ (List.mem_append_right _ (mem_pinsAt hb e)))
          ⟨z.1, z.2.1⟩
        refine ⟨m', lt, i + 1, H', (I'.unpinned (pins := [])).weak (by rw [← w8, wipe_length]) (fun j v e => ?_), T.keep _ _ _ t7 fun b hb o e => (stay b hb o e).1, fun b hb => let ⟨o, e, _⟩ := T.obj _ _ t7 b hb; (stay b hb o e).2, w'⟩
        rw [← w8] at e
        exact (wipe_some e).1
      cases b with
      | false => exact next I9 (by simpa using q9)
      | true =>
        simp only [if_true] at q9
        refine thnF (pe.run _ s9 σ8 H9 _ I9 q9) fun z s10 ⟨yv, H10, I10, r10, acc, hD, hz, nx⟩ => ?_
        exact app_ok (X := blkP X s3 H3 scope ce fp pp) I10 hD hz r10 fun s11 I11 => next I11 nx
  exact codeAny_compStart_list loop (T.self X.A 0 _ _ _ t4 loop)
/-- as a value -/
theorem pe_lcH {el tg src : Expr} {ifs : List Expr} {scope : Scope} {own : List (Str × Nat)} {pos : Pos} {wi : TI} {g : TG} {tt : TT} {te : TE} (hc : HotC X) (nd : X.N.Nodup) (hi : PIH X tg src wi) (ok : BlkOk X.N X.env.scope scope own)
    (hg : ∀ (s : Shared) (H : Hp) (C : Addr) (cl : List (Str × Addr)) (fp : List Addr) (p : Addr × Obj), Hot1 X.A p → PG (blkP X s H scope (compEnvC scope cl C X.env) fp p) tg g)
    (ht : ∀ (s : Shared) (H : Hp) (C : Addr) (cl : List (Str × Addr)) (fp : List Addr) (p : Addr × Obj), Hot1 X.A p → PTs (blkP X s H scope (compEnvC scope cl C X.env) fp p) ifs tt)
    (he : ∀ (s : Shared) (H : Hp) (C : Addr) (cl : List (Str × Addr)) (fp : List Addr) (p : Addr × Obj), Hot1 X.A p → PE (blkP X s H scope (compEnvC scope cl C X.env) fp p) el te) (fo : ∀ x, foldedSetIterable src X.env x = pure x := by intro _; rfl) :
    PE X (.ListComp el [⟨tg, src, ifs, 0⟩] scope pos) (tLc wi g tt te (own.map (·.2))) := ⟨fun pins s σ H Q I h => by
  rw [eval_ListComp]
  exact lc_hot hc nd I hi ok hg ht he fo h fun D C s' m H' I' q hn ⟨f0, f1, f2, f3, f4, f5⟩ => ⟨m, hn, fun h'' sb => ⟨.ref D, H', I'.turned (t' := s'.toks) (fun b o hb e => (sb.2 b hb).trans e) f0 f1 f3 f4 f5, rfl, q⟩⟩⟩
/-- name = [..] on one line -/
theorem ps_setLcH {i : Nat} {y : Str} {py : Pos} {el tg src : Expr} {ifs : List Expr} {scope : Scope} {own : List (Str × Nat)} {pos spos : Pos} {wi : TI} {g : TG} {tt : TT} {te : TE} (hc : HotC X) (nd : X.N.Nodup) (hy : X.N[i]? = some y) (hyl : X.env.scope.names.lookup y = some .local)
    (hsw : swapsWith (.ListComp el [⟨tg, src, ifs, 0⟩] scope pos) (some (.Name y py)) spos.line X.env = pure true) (hi : PIH X tg src wi) (ok : BlkOk X.N X.env.scope scope own)
    (hg : ∀ (s : Shared) (H : Hp) (C : Addr) (cl : List (Str × Addr)) (fp : List Addr) (p : Addr × Obj), Hot1 X.A p → PG (blkP X s H scope (compEnvC scope cl C X.env) fp p) tg g)
    (ht : ∀ (s : Shared) (H : Hp) (C : Addr) (cl : List (Str × Addr)) (fp : List Addr) (p : Addr × Obj), Hot1 X.A p → PTs (blkP X s H scope (compEnvC scope cl C X.env) fp p) ifs tt)
    (he : ∀ (s : Shared) (H : Hp) (C : Addr) (cl : List (Str × Addr)) (fp : List Addr) (p : Addr × Obj), Hot1 X.A p → PE (blkP X s H scope (compEnvC scope cl C X.env) fp p) el te) (fo : ∀ x, foldedSetIterable src X.env x = pure x := by intro _; rfl) :
    PS X (.Assign [.Name y py] (.ListComp el [⟨tg, src, ifs, 0⟩] scope pos) spos) (tAsg (tLc wi g tt te (own.map (·.2))) (gName i)) := ⟨fun pins s σ H D I h => by
  rw [exec_Assign_Name_used _ _ _ _ hsw]
  refine wpAny_bind (wpAny_standAt (wpAny_bind ?_))
  refine (show wpAny _ X.A (do let _ ← comprehension (.ListComp el [⟨tg, src, ifs, 0⟩] scope pos) scope X.env (firstIterPos [⟨tg, src, ifs, 0⟩] pos) (newList []) false (eval src X.env) (some (assign (.Name y py) X.env))) _ _ s from ?_)
  have h : tLc wi g tt te (own.map (·.2)) σ H (fun x H1 => gName i x σ H1 D.nx) := h
  refine wpAny_bind (thn (lc_hot (Qf := fun _ s' => SP X pins D .next s') hc nd I hi ok hg ht he fo h fun L C s' m H' I' q hn f => ?_) fun _ s' hq => wpAny_pure (wpAny_pure hq))
  refine (show wpAny _ _ (assign (.Name y py) X.env (.ref L)) _ _ _ from ?_)
  refine wpAny_assign_Name (store_ok2 (v := V.ref L) I' nd hy (.inl hyl) rfl (fun s2 I2 ⟨a, sb, ha⟩ => ?_) (.inr hyl))
  obtain ⟨f0, f1, f2, f3, f4, f5⟩ := f
  have ne : C ≠ a := ha.elim (fun z => by rw [z]; exact f1) fun z e => f4 y a z e.symm
  exact ⟨m, hn.sameBut sb ne, fun h3 sb3 => ⟨_, H', I2.turned (t' := s2.toks) (fun b o hb e => (sb3.2 b hb).trans e) f0 f1 f3 f4 f5, q⟩⟩⟩
end
end L2H

set_option Elab.async false
set_option linter.all false
set_option maxRecDepth 100000
set_option maxHeartbeats 2000000
/-! ZHotW: all, any of a list where an exception is at hand. -/
namespace L2H
open PySem PySem.Spec PyProof.Rows L2 HotX
theorem hot_keep {A : Around} {x1 : Addr} {h h' : Heap} (c : HotAt A x1 h) (k : ∀ o, h.get? x1 = some o → h'.get? x1 = some o) : HotAt A x1 h' := by
  obtain ⟨a, o, vs, e, r⟩ := c
  exact ⟨a, o, vs, k o e, r⟩
/-- a list's iterator, with the exception among what it reads -/
theorem walks_listH {prog : Program} {w : World} {A : Around} (I ax x1 : Addr) (ne : ax ≠ I) (far : x1 ≠ I) (items : Array Value) :
    Walks prog w A I [I, ax, x1] [I] items.size (fun i v => items[i]? = some v) (fun i h => h.IsListIter I ax i ∧ h.IsList ax items ∧ HotAt A x1 h) where
  sub := fun b hb => by rw [List.mem_singleton.mp hb]; exact List.mem_cons_self
  frame := fun _ _ _ st k => ⟨st.1.at fun o e => k I (by simp) o e, st.2.1.at fun o e => k ax (by simp) o e, hot_keep st.2.2 fun o e => k x1 (by simp) o e⟩
  item := fun i s Q E lt st q => wpAny_pyNext_list_item st.1 st.2.1 (x := items[i]) (by simp [lt]) fun g at' sb =>
    q _ g s.toks (by simp [lt]) ⟨at', st.2.1.extBut sb.extBut ne, hot_keep st.2.2 fun o e => sb.extBut _ _ far e⟩ fun b o nb e => sb.extBut b o (fun z => nb (by simp [z])) e
  done := fun s Q E st q => list_over st.2.2 far st.1 st.2.1 (by simp) fun g k => q g s.toks fun b o nb e => k b o (fun z => nb (by simp [z])) e
  self := fun _ _ _ _ st q => wpAny_pyIter_listiter st.1 q
section
variable {X : Cx}
theorem cr_allH (hc : HotC X) : CallR X (.builtin "all") (rAll X.K) := fun pins s σ H vs us Q I r h => by
  obtain ⟨a, bs, rfl, hs, q⟩ := h
  obtain ⟨its, rv, hl, _⟩ := I.list hs
  rw [Vals.ref1 r]
  have hb := rv.bls
  obtain ⟨x1, hot⟩ := hc.at I
  have l1 : x1 < s.heap.objs.size := by
    obtain ⟨_, o, vs, e, _⟩ := hot
    exact Heap.lt_size e
  refine call_all_walk (iter_any hl.isList fun s2 e2 st ne => ?_)
  subst e2
  refine ⟨_, _, _, _, _, _, _, rfl, walks_listH (A := X.A.in1) _ a x1 ne (Nat.ne_of_lt l1) its.toArray, ⟨st.1, st.2, hot_keep hot fun o e => Heap.get?_push_of_some _ e⟩, truth_bools hb, fun h' tk k => ?_⟩
  refine ⟨.bl _, H, I.kept fun b o e => k b o (fun m => ?_) (Heap.get?_push_of_some _ e), ?_, q⟩
  · exact absurd (List.mem_singleton.mp m ▸ Heap.lt_size e) (Nat.lt_irrefl _)
  · refine (show Value.bool _ = Value.bool _ from ?_)
    rw [hb, ← L2.all_range, List.size_toArray, List.length_map]
end
end L2H

set_option Elab.async false
set_option linter.all false
set_option maxRecDepth 100000
set_option maxHeartbeats 4000000
namespace Z
open PySem PySem.Spec PyProof.Rows L2
theorem na_space {K : PySem.W.Frag} {C : Addr} (h0 : NoAttr K C "dimensions") (h1 : NoAttr K C "_levels") (h2 : NoAttr K C "_leaves") (h3 : NoAttr K C "_parts") (h4 : NoAttr K C "_cells") (h5 : NoAttr K C "_numbers") (h6 : NoAttr K C "many") : ∀ f ∈ spNames, NoAttr K C f := fun f hf => by
  simp only [spNames, List.mem_cons, List.not_mem_nil, or_false] at hf
  rcases hf with rfl | rfl | rfl | rfl | rfl | rfl | rfl <;> assumption
def topS (i : Nat) : Stmt := PySem.Challenge.pw_cubesums_k03_dimensions_refused.main.body.getD i (.Pass ⟨0, 0, 0, 0⟩)
abbrev s_is_word : Stmt := topS 14
theorem sc_is_word : FnScope ["text", "letter"] ["text"] (defScope s_is_word) := ⟨rfl, rfl, rfl, by decide +kernel, rfl, by decide +kernel, by decide +kernel⟩
abbrev s_words_of : Stmt := topS 15
theorem sc_words_of : FnScope ["path"] ["path"] (defScope s_words_of) := ⟨rfl, rfl, rfl, by decide +kernel, rfl, by decide +kernel, by decide +kernel⟩
abbrev s_start_of : Stmt := topS 16
theorem sc_start_of : FnScope ["path", "many"] ["path", "many"] (defScope s_start_of) := ⟨rfl, rfl, rfl, by decide +kernel, rfl, by decide +kernel, by decide +kernel⟩
abbrev s_choices : Stmt := topS 17
theorem sc_choices : FnScope ["rows", "found", "row", "chosen", "item"] ["rows"] (defScope s_choices) := ⟨rfl, rfl, rfl, by decide +kernel, rfl, by decide +kernel, by decide +kernel⟩
abbrev s__is_leaf : Stmt := topS 20
theorem sc__is_leaf : FnScope ["path", "depth", "words", "word"] ["path", "depth"] (defScope s__is_leaf) := ⟨rfl, rfl, rfl, by decide +kernel, rfl, by decide +kernel, by decide +kernel⟩
abbrev s__is_dimension : Stmt := topS 19
theorem sc__is_dimension : FnScope ["name", "leaves", "depth", "leaf", "before", "after"] ["name", "leaves"] (defScope s__is_dimension) := ⟨rfl, rfl, rfl, by decide +kernel, rfl, by decide +kernel, by decide +kernel⟩
abbrev s_check_dimensions : Stmt := topS 18
theorem sc_check_dimensions : FnScope ["dimensions", "names", "cells", "name", "leaves", "_"] ["dimensions"] (defScope s_check_dimensions) := ⟨rfl, rfl, rfl, by decide +kernel, rfl, by decide +kernel, by decide +kernel⟩
abbrev s__members_by_level : Stmt := topS 21
theorem sc__members_by_level : FnScope ["leaves", "levels", "level", "members", "leaf"] ["leaves"] (defScope s__members_by_level) := ⟨rfl, rfl, rfl, by decide +kernel, rfl, by decide +kernel, by decide +kernel⟩
abbrev s__leaves_by_member : Stmt := topS 22
theorem sc__leaves_by_member : FnScope ["leaves", "found", "number", "leaf", "level", "path", "numbers"] ["leaves"] (defScope s__leaves_by_member) := ⟨rfl, rfl, rfl, by decide +kernel, rfl, by decide +kernel, by decide +kernel⟩
abbrev s_Space___init__ : Stmt := inClass (topS 23) 0
theorem sc_Space___init__ : FnScope ["self", "dimensions", "_", "leaves", "number"] ["self", "dimensions"] (defScope s_Space___init__) := ⟨rfl, rfl, rfl, by decide +kernel, rfl, by decide +kernel, by decide +kernel⟩
abbrev s__law_cell : Stmt := topS 25
theorem sc__law_cell : FnScope ["script", "k"] ["script", "k"] (defScope s__law_cell) := ⟨rfl, rfl, rfl, by decide +kernel, rfl, by decide +kernel, by decide +kernel⟩
abbrev s__law_digits : Stmt := topS 26
theorem sc__law_digits : FnScope ["cell", "at", "digits", "turn", "seed"] ["cell", "at"] (defScope s__law_digits) := ⟨rfl, rfl, rfl, by decide +kernel, rfl, by decide +kernel, by decide +kernel⟩
abbrev s__law_box : Stmt := topS 27
theorem sc__law_box : FnScope ["script", "at"] ["script", "at"] (defScope s__law_box) := ⟨rfl, rfl, rfl, by decide +kernel, rfl, by decide +kernel, by decide +kernel⟩
abbrev s__law_draw : Stmt := topS 28
theorem sc__law_draw : FnScope ["box", "many", "at"] ["box", "many"] (defScope s__law_draw) := ⟨rfl, rfl, rfl, by decide +kernel, rfl, by decide +kernel, by decide +kernel⟩
abbrev s__law_is_integer : Stmt := topS 29
theorem sc__law_is_integer : FnScope ["actual"] ["actual"] (defScope s__law_is_integer) := ⟨rfl, rfl, rfl, by decide +kernel, rfl, by decide +kernel, by decide +kernel⟩
abbrev s__law_same : Stmt := topS 30
theorem sc__law_same : FnScope ["actual", "due", "at"] ["actual", "due"] (defScope s__law_same) := ⟨rfl, rfl, rfl, by decide +kernel, rfl, by decide +kernel, by decide +kernel⟩
abbrev s__law_is_word : Stmt := topS 31
theorem sc__law_is_word : FnScope ["text", "sign"] ["text"] (defScope s__law_is_word) := ⟨rfl, rfl, rfl, by decide +kernel, rfl, by decide +kernel, by decide +kernel⟩
abbrev s__law_a_text : Stmt := topS 32
theorem sc__law_a_text : FnScope ["box", "marks", "text", "k", "at"] ["box"] (defScope s__law_a_text) := ⟨rfl, rfl, rfl, by decide +kernel, rfl, by decide +kernel, by decide +kernel⟩
abbrev s__law_word : Stmt := topS 33
theorem sc__law_word : FnScope ["box", "taken", "marks", "turn", "word", "k", "mark"] ["box", "taken"] (defScope s__law_word) := ⟨rfl, rfl, rfl, by decide +kernel, rfl, by decide +kernel, by decide +kernel⟩
abbrev s__law_leaves : Stmt := topS 34
theorem sc__law_leaves : FnScope ["box", "depth", "many", "pools", "level", "words", "k", "paths", "turn", "path", "word", "pool"] ["box", "depth", "many"] (defScope s__law_leaves) := ⟨rfl, rfl, rfl, by decide +kernel, rfl, by decide +kernel, by decide +kernel⟩
abbrev s__law_plain_leaves : Stmt := topS 36
theorem sc__law_plain_leaves : FnScope ["depth", "many", "marks", "heads", "others", "rows", "k"] ["depth", "many"] (defScope s__law_plain_leaves) := ⟨rfl, rfl, rfl, by decide +kernel, rfl, by decide +kernel, by decide +kernel⟩
abbrev s__law_wide : Stmt := topS 35
theorem sc__law_wide : FnScope ["script", "first", "cells_left", "start", "found", "names", "k", "box", "depth", "many", "plain", "leaves", "name"] ["script", "first", "cells_left"] (defScope s__law_wide) := ⟨rfl, rfl, rfl, by decide +kernel, rfl, by decide +kernel, by decide +kernel⟩
abbrev s__law_leaf_rows : Stmt := topS 37
theorem sc__law_leaf_rows : FnScope ["leaves", "depth", "at", "words", "word"] ["leaves"] (defScope s__law_leaf_rows) := ⟨rfl, rfl, rfl, by decide +kernel, rfl, by decide +kernel, by decide +kernel⟩
abbrev s__law_are_dimensions : Stmt := topS 38
theorem sc__law_are_dimensions : FnScope ["dimensions", "names", "cells", "at", "dimension"] ["dimensions"] (defScope s__law_are_dimensions) := ⟨rfl, rfl, rfl, by decide +kernel, rfl, by decide +kernel, by decide +kernel⟩
abbrev s__law_changed_leaves : Stmt := topS 39
theorem sc__law_changed_leaves : FnScope ["box", "leaves", "rows", "at", "other", "kind", "words", "marks", "row", "k"] ["box", "leaves"] (defScope s__law_changed_leaves) := ⟨rfl, rfl, rfl, by decide +kernel, rfl, by decide +kernel, by decide +kernel⟩
abbrev s__law_changed : Stmt := topS 40
theorem sc__law_changed : FnScope ["box", "dimensions", "at", "kind", "row"] ["box", "dimensions"] (defScope s__law_changed) := ⟨rfl, rfl, rfl, by decide +kernel, rfl, by decide +kernel, by decide +kernel⟩
abbrev s_law : Stmt := topS 41
theorem sc_law : FnScope ["script", "dimensions", "box", "turn", "handed", "space", "e"] ["script"] (defScope s_law) := ⟨rfl, rfl, rfl, by decide +kernel, rfl, by decide +kernel, by decide +kernel⟩
structure Top (K : PySem.W.Frag) (mg : Str → Option Value) (c_DEEPEST : V) (c_FEWEST_LEAVES : V) (c_KEPT_WORDS : V) (c_LETTERS : V) (c_LONGEST_WORD : V) (c_MOST_CELLS : V) (c_MOST_DIMENSIONS : V) (c_MOST_LEAVES : V) (C_Space : Addr) (C_BadDimensions : Addr) (C_CubeError : Addr) : Prop where
  n_ValueError : mg "ValueError" = none
  n_all : mg "all" = none
  n_bool : mg "bool" = none
  n_enumerate : mg "enumerate" = none
  n_int : mg "int" = none
  n_isinstance : mg "isinstance" = none
  n_len : mg "len" = none
  n_list : mg "list" = none
  n_min : mg "min" = none
  n_range : mg "range" = none
  n_set : mg "set" = none
  n_sorted : mg "sorted" = none
  n_str : mg "str" = none
  n_tuple : mg "tuple" = none
  n_zip : mg "zip" = none
  c_DEEPEST : ∃ u, mg "DEEPEST" = some u ∧ RelV c_DEEPEST u
  c_FEWEST_LEAVES : ∃ u, mg "FEWEST_LEAVES" = some u ∧ RelV c_FEWEST_LEAVES u
  c_KEPT_WORDS : ∃ u, mg "KEPT_WORDS" = some u ∧ RelV c_KEPT_WORDS u
  c_LETTERS : ∃ u, mg "LETTERS" = some u ∧ RelV c_LETTERS u
  c_LONGEST_WORD : ∃ u, mg "LONGEST_WORD" = some u ∧ RelV c_LONGEST_WORD u
  c_MOST_CELLS : ∃ u, mg "MOST_CELLS" = some u ∧ RelV c_MOST_CELLS u
  c_MOST_DIMENSIONS : ∃ u, mg "MOST_DIMENSIONS" = some u ∧ RelV c_MOST_DIMENSIONS u
  c_MOST_LEAVES : ∃ u, mg "MOST_LEAVES" = some u ∧ RelV c_MOST_LEAVES u
  cls_Space : Cls K C_Space
  at_Space : mg "Space" = some (.ref C_Space)
  na_Space : ∀ f ∈ spNames, NoAttr K C_Space f
  at_BadDimensions : mg "BadDimensions" = some (.ref C_BadDimensions)
  at_CubeError : mg "CubeError" = some (.ref C_CubeError)
  x_BadDimensions : XCls K C_BadDimensions
  xi_BadDimensions : ExcC K C_BadDimensions
  f_is_word : ∃ (f : Addr) (fd : FuncData), Fun K "is_word" "is_word" s_is_word f fd ∧ mg "is_word" = some (.ref f)
  f_words_of : ∃ (f : Addr) (fd : FuncData), Fun K "words_of" "words_of" s_words_of f fd ∧ mg "words_of" = some (.ref f)
  f_start_of : ∃ (f : Addr) (fd : FuncData), Fun K "start_of" "start_of" s_start_of f fd ∧ mg "start_of" = some (.ref f)
  f_choices : ∃ (f : Addr) (fd : FuncData), Fun K "choices" "choices" s_choices f fd ∧ mg "choices" = some (.ref f)
  f__is_leaf : ∃ (f : Addr) (fd : FuncData), Fun K "_is_leaf" "_is_leaf" s__is_leaf f fd ∧ mg "_is_leaf" = some (.ref f)
  f__is_dimension : ∃ (f : Addr) (fd : FuncData), Fun K "_is_dimension" "_is_dimension" s__is_dimension f fd ∧ mg "_is_dimension" = some (.ref f)
  f_check_dimensions : ∃ (f : Addr) (fd : FuncData), Fun K "check_dimensions" "check_dimensions" s_check_dimensions f fd ∧ mg "check_dimensions" = some (.ref f)
  f__members_by_level : ∃ (f : Addr) (fd : FuncData), Fun K "_members_by_level" "_members_by_level" s__members_by_level f fd ∧ mg "_members_by_level" = some (.ref f)
  f__leaves_by_member : ∃ (f : Addr) (fd : FuncData), Fun K "_leaves_by_member" "_leaves_by_member" s__leaves_by_member f fd ∧ mg "_leaves_by_member" = some (.ref f)
  f_Space___init__ : ∃ (f : Addr) (fd : FuncData), Fun K "__init__" "Space.__init__" s_Space___init__ f fd ∧ Mk K C_Space f
  f__law_cell : ∃ (f : Addr) (fd : FuncData), Fun K "_law_cell" "_law_cell" s__law_cell f fd ∧ mg "_law_cell" = some (.ref f)
  f__law_digits : ∃ (f : Addr) (fd : FuncData), Fun K "_law_digits" "_law_digits" s__law_digits f fd ∧ mg "_law_digits" = some (.ref f)
  f__law_box : ∃ (f : Addr) (fd : FuncData), Fun K "_law_box" "_law_box" s__law_box f fd ∧ mg "_law_box" = some (.ref f)
  f__law_draw : ∃ (f : Addr) (fd : FuncData), Fun K "_law_draw" "_law_draw" s__law_draw f fd ∧ mg "_law_draw" = some (.ref f)
  f__law_is_integer : ∃ (f : Addr) (fd : FuncData), Fun K "_law_is_integer" "_law_is_integer" s__law_is_integer f fd ∧ mg "_law_is_integer" = some (.ref f)
  f__law_same : ∃ (f : Addr) (fd : FuncData), Fun K "_law_same" "_law_same" s__law_same f fd ∧ mg "_law_same" = some (.ref f)
  f__law_is_word : ∃ (f : Addr) (fd : FuncData), Fun K "_law_is_word" "_law_is_word" s__law_is_word f fd ∧ mg "_law_is_word" = some (.ref f)
  f__law_a_text : ∃ (f : Addr) (fd : FuncData), Fun K "_law_a_text" "_law_a_text" s__law_a_text f fd ∧ mg "_law_a_text" = some (.ref f)
  f__law_word : ∃ (f : Addr) (fd : FuncData), Fun K "_law_word" "_law_word" s__law_word f fd ∧ mg "_law_word" = some (.ref f)
  f__law_leaves : ∃ (f : Addr) (fd : FuncData), Fun K "_law_leaves" "_law_leaves" s__law_leaves f fd ∧ mg "_law_leaves" = some (.ref f)
  f__law_plain_leaves : ∃ (f : Addr) (fd : FuncData), Fun K "_law_plain_leaves" "_law_plain_leaves" s__law_plain_leaves f fd ∧ mg "_law_plain_leaves" = some (.ref f)
  f__law_wide : ∃ (f : Addr) (fd : FuncData), Fun K "_law_wide" "_law_wide" s__law_wide f fd ∧ mg "_law_wide" = some (.ref f)
  f__law_leaf_rows : ∃ (f : Addr) (fd : FuncData), Fun K "_law_leaf_rows" "_law_leaf_rows" s__law_leaf_rows f fd ∧ mg "_law_leaf_rows" = some (.ref f)
  f__law_are_dimensions : ∃ (f : Addr) (fd : FuncData), Fun K "_law_are_dimensions" "_law_are_dimensions" s__law_are_dimensions f fd ∧ mg "_law_are_dimensions" = some (.ref f)
  f__law_changed_leaves : ∃ (f : Addr) (fd : FuncData), Fun K "_law_changed_leaves" "_law_changed_leaves" s__law_changed_leaves f fd ∧ mg "_law_changed_leaves" = some (.ref f)
  f__law_changed : ∃ (f : Addr) (fd : FuncData), Fun K "_law_changed" "_law_changed" s__law_changed f fd ∧ mg "_law_changed" = some (.ref f)
  f_law : ∃ (f : Addr) (fd : FuncData), Fun K "law" "law" s_law f fd ∧ mg "law" = some (.ref f)
section
variable {P : Program} {w : World} {K : PySem.W.Frag} {mg : Str → Option Value} {base : Heap} {c_DEEPEST : V} {c_FEWEST_LEAVES : V} {c_KEPT_WORDS : V} {c_LETTERS : V} {c_LONGEST_WORD : V} {c_MOST_CELLS : V} {c_MOST_DIMENSIONS : V} {c_MOST_LEAVES : V} {C_Space : Addr} {C_BadDimensions : Addr} {C_CubeError : Addr}
theorem ok_is_word (T : Top K mg c_DEEPEST c_FEWEST_LEAVES c_KEPT_WORDS c_LETTERS c_LONGEST_WORD c_MOST_CELLS c_MOST_DIMENSIONS c_MOST_LEAVES C_Space C_BadDimensions C_CubeError) : Zdef P w K mg base 1 "is_word" ["text"] (RelOf K [] (t_is_word K c_KEPT_WORDS c_LETTERS c_LONGEST_WORD) 2 1) := by
  obtain ⟨f, fd, F, hm⟩ := T.f_is_word
  exact def_z F hm sc_is_word rfl rfl (F.binds fun _ _ _ _ _ _ us hl => match us, hl with | [_], _ => rfl) fun cdv A outer s H E hr =>
    (pss_cons (ps_if (PW.pt (pw_or (pt_cmpR op_in_seq (pv 0) (pe_glob (by rfl) (T.c_KEPT_WORDS).choose_spec.1 (T.c_KEPT_WORDS).choose_spec.2) (by with_unfolding_all rfl)) (pw_or1 (pt_not (pt_chain op_le op_le pe_int (pe_callB call_len (by rfl) T.n_len (by decide +kernel) (pa_cons (pv 0) pa_nil)) (pe_glob (by rfl) (T.c_LONGEST_WORD).choose_spec.1 (T.c_LONGEST_WORD).choose_spec.2)))))) (pss_one (ps_ret pe_bl)) pss_nil)
      (pss_one (ps_ret (pe_callB (cr_all rfl) (by rfl) T.n_all (by decide +kernel) (pa_cons (pe_lc (own := [("letter", 1)]) (g := (gName 1)) (tt := tYes) rfl sc_is_word.nd (pi_str (pv 0)) (blkOk_by (N := ["text", "letter"]) (sc := defScope s_is_word) (by decide +kernel)) (fun _ _ _ _ _ => (pg_name (i := 1) sc_is_word.nd rfl (Or.inl rfl))) (fun _ _ _ _ _ => pts_nil) (fun _ _ _ _ _ => (pe_cmpR op_in_sign (pv 1) (pe_glob (by rfl) (T.c_LETTERS).choose_spec.1 (T.c_LETTERS).choose_spec.2) (by with_unfolding_all rfl)))) pa_nil)))))
theorem ok_words_of (T : Top K mg c_DEEPEST c_FEWEST_LEAVES c_KEPT_WORDS c_LETTERS c_LONGEST_WORD c_MOST_CELLS c_MOST_DIMENSIONS c_MOST_LEAVES C_Space C_BadDimensions C_CubeError) : Zdef P w K mg base 1 "words_of" ["path"] (RelOf K [] (t_words_of K) 1 1) := by
  obtain ⟨f, fd, F, hm⟩ := T.f_words_of
  exact def_z F hm sc_words_of rfl rfl (F.binds fun _ _ _ _ _ _ us hl => match us, hl with | [_], _ => rfl) fun cdv A outer s H E hr =>
    (pss_one (ps_ret (pe_ifExp (pt_truth (pv 0) (by intro _; rfl)) (pe_split (pv 0) pe_str) (pe_lst pa_nil))))
theorem ok_start_of (T : Top K mg c_DEEPEST c_FEWEST_LEAVES c_KEPT_WORDS c_LETTERS c_LONGEST_WORD c_MOST_CELLS c_MOST_DIMENSIONS c_MOST_LEAVES C_Space C_BadDimensions C_CubeError) {R_words_of : Rel} (g_words_of : Zdef P w K mg base 1 "words_of" ["path"] R_words_of) : Zdef P w K mg base 2 "start_of" ["path", "many"] (RelOf K [] (t_start_of K R_words_of) 2 2) := by
  obtain ⟨f, fd, F, hm⟩ := T.f_start_of
  exact def_z F hm sc_start_of rfl rfl (F.binds fun _ _ _ _ _ _ us hl => match us, hl with | [_, _], _ => rfl) fun cdv A outer s H E hr =>
    (pss_one (ps_ret (pe_join pe_str (pe_slice sl_list (pe_callZ g_words_of hr (by omega) (by rfl) (pa_cons (pv 0) pa_nil)) po_none (po_some (pv 1))))))
theorem ok_choices (T : Top K mg c_DEEPEST c_FEWEST_LEAVES c_KEPT_WORDS c_LETTERS c_LONGEST_WORD c_MOST_CELLS c_MOST_DIMENSIONS c_MOST_LEAVES C_Space C_BadDimensions C_CubeError) : Zdef P w K mg base 1 "choices" ["rows"] (RelOf K [] (t_choices K) 5 1) := by
  obtain ⟨f, fd, F, hm⟩ := T.f_choices
  exact def_z F hm sc_choices rfl rfl (F.binds fun _ _ _ _ _ _ us hl => match us, hl with | [_], _ => rfl) fun cdv A outer s H E hr =>
    (pss_cons (ps_set (i := 1) sc_choices.nd rfl (Or.inl rfl) (pe_lst (pa_cons (pe_tup pa_nil) pa_nil)))
      (pss_cons (ps_for PassesOwn.never rfl (pi_list (pv 0)) (pg_name (i := 2) sc_choices.nd rfl (Or.inr rfl)) (pss_one (ps_setLc2 (i := 1) (own := [("chosen", 3), ("item", 4)]) (vs1 := [4]) (g := (gName 3)) (g1 := (gName 4)) (tt := tYes) (tt1 := tYes) rfl sc_choices.nd rfl rfl (sw_true rfl rfl rfl (by decide +kernel)) (pi_list (pv 1)) (blkOk_by (N := ["rows", "found", "row", "chosen", "item"]) (sc := defScope s_choices) (by decide +kernel)) (by decide) (fun _ _ _ _ _ => (pg_name (i := 3) sc_choices.nd rfl (Or.inl rfl))) (fun _ _ _ _ _ => pts_nil) (fun _ _ _ _ _ => (pi_seq (pv 2))) (fun _ _ _ _ _ => (pg_name (i := 4) sc_choices.nd rfl (Or.inl rfl))) (fun _ _ _ _ _ => pts_nil) (fun _ _ _ _ _ => (pe_tup (StX.pa_star (pv 3) (pa_cons (pv 4) pa_nil)))))))
      (pss_one (ps_ret (pv 1)))))
theorem ok__is_leaf (T : Top K mg c_DEEPEST c_FEWEST_LEAVES c_KEPT_WORDS c_LETTERS c_LONGEST_WORD c_MOST_CELLS c_MOST_DIMENSIONS c_MOST_LEAVES C_Space C_BadDimensions C_CubeError) {R_is_word : Rel} (g_is_word : Zdef P w K mg base 1 "is_word" ["text"] R_is_word) {R_words_of : Rel} (g_words_of : Zdef P w K mg base 1 "words_of" ["path"] R_words_of) : Zdef P w K mg base 2 "_is_leaf" ["path", "depth"] (RelOf K [] (t__is_leaf K R_is_word R_words_of) 4 2) := by
  obtain ⟨f, fd, F, hm⟩ := T.f__is_leaf
  exact def_z F hm sc__is_leaf rfl rfl (F.binds fun _ _ _ _ _ _ us hl => match us, hl with | [_, _], _ => rfl) fun cdv A outer s H E hr =>
    (pss_cons (ps_set (i := 2) sc__is_leaf.nd rfl (Or.inl rfl) (pe_callZ g_words_of hr (by omega) (by rfl) (pa_cons (pv 0) pa_nil)))
      (pss_one (ps_ret (pe_and (pe_cmpR op_eq (pe_callB call_len (by rfl) T.n_len (by decide +kernel) (pa_cons (pv 2) pa_nil)) (pv 1) (nomark _)) (pe_one (pe_callB (cr_all rfl) (by rfl) T.n_all (by decide +kernel) (pa_cons (pe_lc (own := [("word", 3)]) (g := (gName 3)) (tt := tYes) rfl sc__is_leaf.nd (pi_list (pv 2)) (blkOk_by (N := ["path", "depth", "words", "word"]) (sc := defScope s__is_leaf) (by decide +kernel)) (fun _ _ _ _ _ => (pg_name (i := 3) sc__is_leaf.nd rfl (Or.inl rfl))) (fun _ _ _ _ _ => pts_nil) (fun _ _ _ _ _ => (pe_callZ g_is_word hr (by omega) (by rfl) (pa_cons (pv 3) pa_nil)))) pa_nil)))))))
theorem ok__is_dimension (T : Top K mg c_DEEPEST c_FEWEST_LEAVES c_KEPT_WORDS c_LETTERS c_LONGEST_WORD c_MOST_CELLS c_MOST_DIMENSIONS c_MOST_LEAVES C_Space C_BadDimensions C_CubeError) {R__is_leaf : Rel} (g__is_leaf : Zdef P w K mg base 2 "_is_leaf" ["path", "depth"] R__is_leaf) {R_is_word : Rel} (g_is_word : Zdef P w K mg base 1 "is_word" ["text"] R_is_word) {R_words_of : Rel} (g_words_of : Zdef P w K mg base 1 "words_of" ["path"] R_words_of) : Zdef P w K mg base 3 "_is_dimension" ["name", "leaves"] (RelOf K [] (t__is_dimension K R__is_leaf R_is_word R_words_of c_DEEPEST c_FEWEST_LEAVES c_MOST_LEAVES) 6 2) := by
  obtain ⟨f, fd, F, hm⟩ := T.f__is_dimension
  exact def_z F hm sc__is_dimension rfl rfl (F.binds fun _ _ _ _ _ _ us hl => match us, hl with | [_, _], _ => rfl) fun cdv A outer s H E hr =>
    (pss_cons (ps_if (PW.pt (pw_or (pt_not (pt_val (pe_callZ g_is_word hr (by omega) (by rfl) (pa_cons (pv 0) pa_nil)))) (pw_or1 (pt_not (pt_chain op_le op_le (pe_glob (by rfl) (T.c_FEWEST_LEAVES).choose_spec.1 (T.c_FEWEST_LEAVES).choose_spec.2) (pe_callB call_len (by rfl) T.n_len (by decide +kernel) (pa_cons (pv 1) pa_nil)) (pe_glob (by rfl) (T.c_MOST_LEAVES).choose_spec.1 (T.c_MOST_LEAVES).choose_spec.2)))))) (pss_one (ps_ret pe_bl)) pss_nil)
      (pss_cons (ps_set (i := 2) sc__is_dimension.nd rfl (Or.inr rfl) (pe_callB call_len (by rfl) T.n_len (by decide +kernel) (pa_cons (pe_callZ g_words_of hr (by omega) (by rfl) (pa_cons (pe_ix ix_seq (pv 1) pe_int (fun _ _ => rfl)) pa_nil)) pa_nil)))
      (pss_cons (ps_if (pt_not (pt_chain op_le op_le pe_int (pv 2) (pe_glob (by rfl) (T.c_DEEPEST).choose_spec.1 (T.c_DEEPEST).choose_spec.2))) (pss_one (ps_ret pe_bl)) pss_nil)
      (pss_cons (ps_if (pt_not (pt_val (pe_callB (cr_all rfl) (by rfl) T.n_all (by decide +kernel) (pa_cons (pe_lc (own := [("leaf", 3)]) (g := (gName 3)) (tt := tYes) rfl sc__is_dimension.nd (pi_tup (pv 1)) (blkOk_by (N := ["name", "leaves", "depth", "leaf", "before", "after"]) (sc := defScope s__is_dimension) (by decide +kernel)) (fun _ _ _ _ _ => (pg_name (i := 3) sc__is_dimension.nd rfl (Or.inl rfl))) (fun _ _ _ _ _ => pts_nil) (fun _ _ _ _ _ => (pe_callZ g__is_leaf hr (by omega) (by rfl) (pa_cons (pv 3) (pa_cons (pv 2) pa_nil))))) pa_nil)))) (pss_one (ps_ret pe_bl)) pss_nil)
      (pss_one (ps_ret (pe_callB (cr_all rfl) (by rfl) T.n_all (by decide +kernel) (pa_cons (pe_lc (own := [("before", 4), ("after", 5)]) (g := (gTup K 2 (gCons (gName 4) (gCons (gName 5) gNil)))) (tt := tYes) rfl sc__is_dimension.nd (RZ.pi_zipA (by rfl) T.n_zip (pa_cons (pv 1) (pa_cons (pe_slice sl_tup (pv 1) (po_some pe_int) po_none) pa_nil))) (blkOk_by (N := ["name", "leaves", "depth", "leaf", "before", "after"]) (sc := defScope s__is_dimension) (by decide +kernel)) (fun _ _ _ _ _ => (pg_tup rfl (pgs_cons (pg_name (i := 4) sc__is_dimension.nd rfl (Or.inl rfl)) (pgs_cons (pg_name (i := 5) sc__is_dimension.nd rfl (Or.inl rfl)) pgs_nil)))) (fun _ _ _ _ _ => pts_nil) (fun _ _ _ _ _ => (pe_cmpR op_lt_str (pv 4) (pv 5) (nomark _)))) pa_nil))))))))
theorem okx_check_dimensions (T : Top K mg c_DEEPEST c_FEWEST_LEAVES c_KEPT_WORDS c_LETTERS c_LONGEST_WORD c_MOST_CELLS c_MOST_DIMENSIONS c_MOST_LEAVES C_Space C_BadDimensions C_CubeError) {R__is_dimension : Rel} (g__is_dimension : Zdef P w K mg base 3 "_is_dimension" ["name", "leaves"] R__is_dimension) : Zdex P w K mg base 4 "check_dimensions" ["dimensions"] (RelOfE K [] (fun E => K03.tx_check_dimensions K R__is_dimension c_MOST_CELLS c_MOST_DIMENSIONS C_BadDimensions E) 6 1) (RelOfX K [] (fun E => K03.tx_check_dimensions K R__is_dimension c_MOST_CELLS c_MOST_DIMENSIONS C_BadDimensions E) 6 1) := by
  obtain ⟨f, fd, F, hm⟩ := T.f_check_dimensions
  exact def_zx F hm sc_check_dimensions rfl rfl (F.binds fun _ _ _ _ _ _ us hl => match us, hl with | [_], _ => rfl) fun cdv A outer s H E hr =>
    (pss_cons (ps_if (pt_not (pt_chain op_le op_le pe_int (pe_callB call_len (by rfl) T.n_len (by decide +kernel) (pa_cons (pv 0) pa_nil)) (pe_glob (by rfl) (T.c_MOST_DIMENSIONS).choose_spec.1 (T.c_MOST_DIMENSIONS).choose_spec.2))) (pss_one (ps_raise0 rfl (L2N.takes_of rfl rfl rfl rfl) T.x_BadDimensions T.at_BadDimensions (by rfl))) pss_nil)
      (pss_cons (ps_setLc (i := 1) (own := [("name", 3), ("_", 5)]) (g := (gTup K 2 (gCons (gName 3) (gCons (gName 5) gNil)))) (tt := tYes) rfl sc_check_dimensions.nd rfl rfl (sw_true rfl rfl rfl (by decide +kernel)) (pi_tup (pv 0)) (blkOk_by (N := ["dimensions", "names", "cells", "name", "leaves", "_"]) (sc := defScope s_check_dimensions) (by decide +kernel)) (fun _ _ _ _ _ => (pg_tup rfl (pgs_cons (pg_name (i := 3) sc_check_dimensions.nd rfl (Or.inl rfl)) (pgs_cons (pg_name (i := 5) sc_check_dimensions.nd rfl (Or.inl rfl)) pgs_nil)))) (fun _ _ _ _ _ => pts_nil) (fun _ _ _ _ _ => (pv 3)))
      (pss_cons (ps_if (pt_cmpR op_lt (pe_lenSetS (by rfl) T.n_len (by rfl) T.n_set (pv 1)) (pe_callB call_len (by rfl) T.n_len (by decide +kernel) (pa_cons (pv 1) pa_nil)) (nomark _)) (pss_one (ps_raise0 rfl (L2N.takes_of rfl rfl rfl rfl) T.x_BadDimensions T.at_BadDimensions (by rfl))) pss_nil)
      (pss_cons (ps_set (i := 2) sc_check_dimensions.nd rfl (Or.inl rfl) pe_int)
      (pss_cons (ps_for (passes_of rfl) rfl (pi_tup (pv 0)) (pg_tup rfl (pgs_cons (pg_name (i := 3) sc_check_dimensions.nd rfl (Or.inl rfl)) (pgs_cons (pg_name (i := 4) sc_check_dimensions.nd rfl (Or.inl rfl)) pgs_nil))) (pss_cons (ps_if (pt_not (pt_val (pe_callZ g__is_dimension hr (by omega) (by rfl) (pa_cons (pv 3) (pa_cons (pv 4) pa_nil))))) (pss_one (ps_raise0 rfl (L2N.takes_of rfl rfl rfl rfl) T.x_BadDimensions T.at_BadDimensions (by rfl))) pss_nil)
      (pss_one (ps_set (i := 2) sc_check_dimensions.nd rfl (Or.inl rfl) (pe_op op_mul (pv 2) (pe_callB call_len (by rfl) T.n_len (by decide +kernel) (pa_cons (pv 4) pa_nil)))))))
      (pss_one (ps_if (pt_cmpR op_gt (pv 2) (pe_glob (by rfl) (T.c_MOST_CELLS).choose_spec.1 (T.c_MOST_CELLS).choose_spec.2) (nomark _)) (pss_one (ps_raise0 rfl (L2N.takes_of rfl rfl rfl rfl) T.x_BadDimensions T.at_BadDimensions (by rfl))) pss_nil)))))))
theorem ok__members_by_level (T : Top K mg c_DEEPEST c_FEWEST_LEAVES c_KEPT_WORDS c_LETTERS c_LONGEST_WORD c_MOST_CELLS c_MOST_DIMENSIONS c_MOST_LEAVES C_Space C_BadDimensions C_CubeError) {R_start_of : Rel} (g_start_of : Zdef P w K mg base 2 "start_of" ["path", "many"] R_start_of) {R_words_of : Rel} (g_words_of : Zdef P w K mg base 1 "words_of" ["path"] R_words_of) : Zdef P w K mg base 3 "_members_by_level" ["leaves"] (RelOf K [] (t__members_by_level K R_start_of R_words_of) 5 1) := by
  obtain ⟨f, fd, F, hm⟩ := T.f__members_by_level
  exact def_z F hm sc__members_by_level rfl rfl (F.binds fun _ _ _ _ _ _ us hl => match us, hl with | [_], _ => rfl) fun cdv A outer s H E hr =>
    (pss_cons (ps_set (i := 1) sc__members_by_level.nd rfl (Or.inl rfl) (pe_lst pa_nil))
      (pss_cons (ps_for PassesOwn.never rfl (pi_range1 (by rfl) T.n_range (pa_cons (pe_op op_add (pe_callB call_len (by rfl) T.n_len (by decide +kernel) (pa_cons (pe_callZ g_words_of hr (by omega) (by rfl) (pa_cons (pe_ix ix_seq (pv 0) pe_int (fun _ _ => rfl)) pa_nil)) pa_nil)) pe_int) pa_nil)) (pg_name (i := 2) sc__members_by_level.nd rfl (Or.inr rfl)) (pss_cons (ps_setDc (i := 3) (own := [("leaf", 4)]) (g := (gName 4)) (tt := tYes) rfl sc__members_by_level.nd rfl rfl (sw_trueD rfl rfl rfl (by decide +kernel)) (pi_tup (pv 0)) (blkOk_by (N := ["leaves", "levels", "level", "members", "leaf"]) (sc := defScope s__members_by_level) (by decide +kernel)) (fun _ _ _ _ _ => (pg_name (i := 4) sc__members_by_level.nd rfl (Or.inl rfl))) (fun _ _ _ _ _ => pts_nil) (fun _ _ _ _ _ => (pe_callZ g_start_of hr (by omega) (by rfl) (pa_cons (pv 4) (pa_cons (pv 2) pa_nil)))) (fun _ _ _ _ _ => pe_bl))
      (pss_one (ps_expr (pe_bm PySem.F.plainAttrs_list PySem.F.slot_list_append PySem.F.type_list_append mt_append (pv 1) (pa_cons (pe_callTy (call_tuple_dK rfl) (by rfl) T.n_tuple (by decide +kernel) (pa_cons (pv 3) pa_nil)) pa_nil))))))
      (pss_one (ps_ret (pv 1)))))
theorem ok__leaves_by_member (T : Top K mg c_DEEPEST c_FEWEST_LEAVES c_KEPT_WORDS c_LETTERS c_LONGEST_WORD c_MOST_CELLS c_MOST_DIMENSIONS c_MOST_LEAVES C_Space C_BadDimensions C_CubeError) {R_start_of : Rel} (g_start_of : Zdef P w K mg base 2 "start_of" ["path", "many"] R_start_of) {R_words_of : Rel} (g_words_of : Zdef P w K mg base 1 "words_of" ["path"] R_words_of) : Zdef P w K mg base 3 "_leaves_by_member" ["leaves"] (RelOf K [] (t__leaves_by_member K R_start_of R_words_of) 7 1) := by
  obtain ⟨f, fd, F, hm⟩ := T.f__leaves_by_member
  exact def_z F hm sc__leaves_by_member rfl rfl (F.binds fun _ _ _ _ _ _ us hl => match us, hl with | [_], _ => rfl) fun cdv A outer s H E hr =>
    (pss_cons (ps_set (i := 1) sc__leaves_by_member.nd rfl (Or.inl rfl) pe_dnewK)
      (pss_cons (ps_for PassesOwn.never rfl (pi_enumT (by rfl) T.n_enumerate (pa_cons (pv 0) pa_nil)) (pg_tup rfl (pgs_cons (pg_name (i := 2) sc__leaves_by_member.nd rfl (Or.inl rfl)) (pgs_cons (pg_name (i := 3) sc__leaves_by_member.nd rfl (Or.inl rfl)) pgs_nil))) (pss_one (ps_for PassesOwn.never rfl (pi_range1 (by rfl) T.n_range (pa_cons (pe_op op_add (pe_callB call_len (by rfl) T.n_len (by decide +kernel) (pa_cons (pe_callZ g_words_of hr (by omega) (by rfl) (pa_cons (pv 3) pa_nil)) pa_nil)) pe_int) pa_nil)) (pg_name (i := 4) sc__leaves_by_member.nd rfl (Or.inl rfl)) (pss_one (ps_expr (pe_bm PySem.F.plainAttrs_list PySem.F.slot_list_append PySem.F.type_list_append mt_append (pe_dsetd (pv 1) (pe_callZ g_start_of hr (by omega) (by rfl) (pa_cons (pv 3) (pa_cons (pv 4) pa_nil))) (pe_lst pa_nil) ⟨by rfl, by rfl, by rfl, by rfl⟩) (pa_cons (pv 2) pa_nil)))))))
      (pss_one (ps_ret (pe_lock (pe_dc (own := [("path", 5), ("numbers", 6)]) (g := (gTup K 2 (gCons (gName 5) (gCons (gName 6) gNil)))) (tt := tYes) rfl sc__leaves_by_member.nd (pi_items (pv 1)) (blkOk_by (N := ["leaves", "found", "number", "leaf", "level", "path", "numbers"]) (sc := defScope s__leaves_by_member) (by decide +kernel)) (fun _ _ _ _ _ => (pg_tup rfl (pgs_cons (pg_name (i := 5) sc__leaves_by_member.nd rfl (Or.inl rfl)) (pgs_cons (pg_name (i := 6) sc__leaves_by_member.nd rfl (Or.inl rfl)) pgs_nil)))) (fun _ _ _ _ _ => pts_nil) (fun _ _ _ _ _ => (pv 5)) (fun _ _ _ _ _ => (pe_callTy call_tuple_of (by rfl) T.n_tuple (by decide +kernel) (pa_cons (pv 6) pa_nil)))))))))
theorem okx_Space (T : Top K mg c_DEEPEST c_FEWEST_LEAVES c_KEPT_WORDS c_LETTERS c_LONGEST_WORD c_MOST_CELLS c_MOST_DIMENSIONS c_MOST_LEAVES C_Space C_BadDimensions C_CubeError) {Rx_check_dimensions : Rel} {RX_check_dimensions : RelX} (gx_check_dimensions : Zdex P w K mg base 4 "check_dimensions" ["dimensions"] Rx_check_dimensions RX_check_dimensions) {R__leaves_by_member : Rel} (g__leaves_by_member : Zdef P w K mg base 3 "_leaves_by_member" ["leaves"] R__leaves_by_member) {R__members_by_level : Rel} (g__members_by_level : Zdef P w K mg base 3 "_members_by_level" ["leaves"] R__members_by_level) {R_choices : Rel} (g_choices : Zdef P w K mg base 1 "choices" ["rows"] R_choices) : Zmax P w K mg base 5 "Space" C_Space ["self", "dimensions"] (RelOfE K [0] (fun E => K03.tx_Space___init__ K Rx_check_dimensions RX_check_dimensions R__leaves_by_member R__members_by_level R_choices E) 5 2) (RelOfX K [0] (fun E => K03.tx_Space___init__ K Rx_check_dimensions RX_check_dimensions R__leaves_by_member R__members_by_level R_choices E) 5 2) := by
  obtain ⟨f, fd, F, hm⟩ := T.f_Space___init__
  exact mak_zx F hm T.at_Space sc_Space___init__ rfl rfl (F.binds fun _ _ _ _ _ _ us hl => match us, hl with | [_, _], _ => rfl) fun cdv A outer s H E hr =>
    (pss_cons (ps_expr (pe_callX gx_check_dimensions hr (by omega) (L2N.takes_of rfl rfl rfl rfl) (by rfl) (pa_cons (pv 1) pa_nil)))
      (pss_cons (ps_fld (pv 0) (pv 1) rfl)
      (pss_cons (ps_fld (pv 0) (pe_lc (own := [("_", 2), ("leaves", 3)]) (g := (gTup K 2 (gCons (gName 2) (gCons (gName 3) gNil)))) (tt := tYes) rfl sc_Space___init__.nd (pi_tup (pv 1)) (blkOk_by (N := ["self", "dimensions", "_", "leaves", "number"]) (sc := defScope s_Space___init__) (by decide +kernel)) (fun _ _ _ _ _ => (pg_tup rfl (pgs_cons (pg_name (i := 2) sc_Space___init__.nd rfl (Or.inl rfl)) (pgs_cons (pg_name (i := 3) sc_Space___init__.nd rfl (Or.inl rfl)) pgs_nil)))) (fun _ _ _ _ _ => pts_nil) (fun _ _ _ _ _ => (pe_callZ g__members_by_level hr (by omega) (by rfl) (pa_cons (pv 3) pa_nil)))) rfl)
      (pss_cons (ps_fld (pv 0) (pe_lc (own := [("_", 2), ("leaves", 3)]) (g := (gTup K 2 (gCons (gName 2) (gCons (gName 3) gNil)))) (tt := tYes) rfl sc_Space___init__.nd (pi_tup (pv 1)) (blkOk_by (N := ["self", "dimensions", "_", "leaves", "number"]) (sc := defScope s_Space___init__) (by decide +kernel)) (fun _ _ _ _ _ => (pg_tup rfl (pgs_cons (pg_name (i := 2) sc_Space___init__.nd rfl (Or.inl rfl)) (pgs_cons (pg_name (i := 3) sc_Space___init__.nd rfl (Or.inl rfl)) pgs_nil)))) (fun _ _ _ _ _ => pts_nil) (fun _ _ _ _ _ => (pe_callZ g__leaves_by_member hr (by omega) (by rfl) (pa_cons (pv 3) pa_nil)))) rfl)
      (pss_cons (ps_fld (pv 0) (pe_callZ g_choices hr (by omega) (by rfl) (pa_cons (pe_lc (own := [("_", 2), ("leaves", 3)]) (g := (gTup K 2 (gCons (gName 2) (gCons (gName 3) gNil)))) (tt := tYes) rfl sc_Space___init__.nd (pi_tup (pv 1)) (blkOk_by (N := ["self", "dimensions", "_", "leaves", "number"]) (sc := defScope s_Space___init__) (by decide +kernel)) (fun _ _ _ _ _ => (pg_tup rfl (pgs_cons (pg_name (i := 2) sc_Space___init__.nd rfl (Or.inl rfl)) (pgs_cons (pg_name (i := 3) sc_Space___init__.nd rfl (Or.inl rfl)) pgs_nil)))) (fun _ _ _ _ _ => pts_nil) (fun _ _ _ _ _ => (pe_listRg rfl (by rfl) T.n_list (prg_1 (by rfl) T.n_range (pe_callB call_len (by rfl) T.n_len (by decide +kernel) (pa_cons (pv 3) pa_nil)))))) pa_nil)) rfl)
      (pss_cons (ps_fld (pv 0) (pe_callZ g_choices hr (by omega) (by rfl) (pa_cons (pe_lc (own := [("_", 2), ("leaves", 3)]) (g := (gTup K 2 (gCons (gName 2) (gCons (gName 3) gNil)))) (tt := tYes) rfl sc_Space___init__.nd (pi_tup (pv 1)) (blkOk_by (N := ["self", "dimensions", "_", "leaves", "number"]) (sc := defScope s_Space___init__) (by decide +kernel)) (fun _ _ _ _ _ => (pg_tup rfl (pgs_cons (pg_name (i := 2) sc_Space___init__.nd rfl (Or.inl rfl)) (pgs_cons (pg_name (i := 3) sc_Space___init__.nd rfl (Or.inl rfl)) pgs_nil)))) (fun _ _ _ _ _ => pts_nil) (fun _ _ _ _ _ => (pv 3))) pa_nil)) rfl)
      (pss_cons (ps_fld (pv 0) (pe_dcT (own := [("number", 4), ("leaves", 3)]) (g := (gTup K 2 (gCons (gName 4) (gCons (gName 3) gNil)))) (tt := tYes) (hu_of1 hr) rfl sc_Space___init__.nd (pi_enum (by rfl) T.n_enumerate (pa_cons (pe_fld (pv 0) rfl) pa_nil)) (blkOk_by (N := ["self", "dimensions", "_", "leaves", "number"]) (sc := defScope s_Space___init__) (by decide +kernel)) ⟨(fun _ _ _ _ _ => (pg_tup rfl (pgs_cons (pg_name (i := 4) sc_Space___init__.nd rfl (Or.inl rfl)) (pgs_cons (pg_name (i := 3) sc_Space___init__.nd rfl (Or.inl rfl)) pgs_nil)))), (fun _ _ _ _ _ => pts_nil), (fun _ _ _ _ _ => (pv 3)), (fun _ _ _ _ _ => (pv 4))⟩) rfl)
      (pss_one (ps_fld (pv 0) (pe_callB call_len (by rfl) T.n_len (by decide +kernel) (pa_cons (pe_fld (pv 0) rfl) pa_nil)) rfl)))))))))
theorem ok__law_cell (T : Top K mg c_DEEPEST c_FEWEST_LEAVES c_KEPT_WORDS c_LETTERS c_LONGEST_WORD c_MOST_CELLS c_MOST_DIMENSIONS c_MOST_LEAVES C_Space C_BadDimensions C_CubeError) : Zdef P w K mg base 1 "_law_cell" ["script", "k"] (RelOf K [] (t__law_cell K) 2 2) := by
  obtain ⟨f, fd, F, hm⟩ := T.f__law_cell
  exact def_z F hm sc__law_cell rfl rfl (F.binds fun _ _ _ _ _ _ us hl => match us, hl with | [_, _], _ => rfl) fun cdv A outer s H E hr =>
    (pss_cons (ps_if (pt_cmpR op_lt (pv 1) (pe_callB call_len (by rfl) T.n_len (by decide +kernel) (pa_cons (pv 0) pa_nil)) (nomark _)) (pss_one (ps_ret (pe_callTy call_int1 (by rfl) T.n_int (by decide +kernel) (pa_cons (pe_ix ix_seq (pv 0) (pv 1) (fun _ _ => rfl)) pa_nil)))) pss_nil)
      (pss_one (ps_ret pe_int)))
theorem ok__law_digits (T : Top K mg c_DEEPEST c_FEWEST_LEAVES c_KEPT_WORDS c_LETTERS c_LONGEST_WORD c_MOST_CELLS c_MOST_DIMENSIONS c_MOST_LEAVES C_Space C_BadDimensions C_CubeError) : Zdef P w K mg base 1 "_law_digits" ["cell", "at"] (RelOf K [] (t__law_digits K) 5 2) := by
  obtain ⟨f, fd, F, hm⟩ := T.f__law_digits
  exact def_z F hm sc__law_digits rfl rfl (F.binds fun _ _ _ _ _ _ us hl => match us, hl with | [_, _], _ => rfl) fun cdv A outer s H E hr =>
    (pss_cons (ps_set (i := 2) sc__law_digits.nd rfl (Or.inl rfl) (pe_lst pa_nil))
      (pss_cons (ps_if (pt_cmpR op_lt (pv 0) pe_int (nomark _)) (pss_one (ps_set (i := 0) sc__law_digits.nd rfl (Or.inl rfl) (pe_op op_sub pe_int (pe_op op_mul pe_int (pv 0))))) pss_nil)
      (pss_cons (ps_if (pt_cmpR op_ge (pv 0) (pe_op op_pow pe_int pe_int) (nomark _)) (pss_one (ps_for PassesOwn.never rfl (pi_range1 (by rfl) T.n_range (pa_cons pe_int pa_nil)) (pg_name (i := 3) sc__law_digits.nd rfl (Or.inl rfl)) (pss_one (ps_if (pt_cmpR op_gt (pv 0) pe_int (nomark _)) (pss_cons (ps_expr (pe_bm PySem.F.plainAttrs_list PySem.F.slot_list_append PySem.F.type_list_append mt_append (pv 2) (pa_cons (pe_op op_mod (pe_callTy call_int1 (by rfl) T.n_int (by decide +kernel) (pa_cons (pv 0) pa_nil)) pe_int) pa_nil)))
      (pss_one (ps_set (i := 0) sc__law_digits.nd rfl (Or.inl rfl) (pe_op op_fdiv (pv 0) pe_int)))) pss_nil)))) (pss_cons (ps_set (i := 4) sc__law_digits.nd rfl (Or.inl rfl) (pe_op op_mod (pe_callTy call_int1 (by rfl) T.n_int (by decide +kernel) (pa_cons (pe_op op_add (pe_op op_add (pe_op op_mul (pv 0) pe_int) (pe_op op_mul (pv 1) pe_int)) pe_int) pa_nil)) pe_int))
      (pss_one (ps_for PassesOwn.never rfl (pi_range1 (by rfl) T.n_range (pa_cons pe_int pa_nil)) (pg_name (i := 3) sc__law_digits.nd rfl (Or.inl rfl)) (pss_cons (ps_set (i := 4) sc__law_digits.nd rfl (Or.inl rfl) (pe_op op_mod (pe_callTy call_int1 (by rfl) T.n_int (by decide +kernel) (pa_cons (pe_op op_add (pe_op op_add (pe_op op_mul (pv 4) pe_int) (pe_op op_mul pe_int (pv 3))) pe_int) pa_nil)) pe_int))
      (pss_one (ps_expr (pe_bm PySem.F.plainAttrs_list PySem.F.slot_list_append PySem.F.type_list_append mt_append (pv 2) (pa_cons (pe_op op_mod (pe_callTy call_int1 (by rfl) T.n_int (by decide +kernel) (pa_cons (pe_op op_fdiv (pv 4) pe_int) pa_nil)) pe_int) pa_nil)))))))))
      (pss_one (ps_ret (pv 2))))))
theorem ok__law_box (T : Top K mg c_DEEPEST c_FEWEST_LEAVES c_KEPT_WORDS c_LETTERS c_LONGEST_WORD c_MOST_CELLS c_MOST_DIMENSIONS c_MOST_LEAVES C_Space C_BadDimensions C_CubeError) {R__law_cell : Rel} (g__law_cell : Zdef P w K mg base 1 "_law_cell" ["script", "k"] R__law_cell) {R__law_digits : Rel} (g__law_digits : Zdef P w K mg base 1 "_law_digits" ["cell", "at"] R__law_digits) : Zdef P w K mg base 2 "_law_box" ["script", "at"] (RelOf K [] (t__law_box K R__law_cell R__law_digits) 2 2) := by
  obtain ⟨f, fd, F, hm⟩ := T.f__law_box
  exact def_z F hm sc__law_box rfl rfl (F.binds fun _ _ _ _ _ _ us hl => match us, hl with | [_, _], _ => rfl) fun cdv A outer s H E hr =>
    (pss_one (ps_ret (pe_lst (pa_cons (pe_callZ g__law_digits hr (by omega) (by rfl) (pa_cons (pe_callZ g__law_cell hr (by omega) (by rfl) (pa_cons (pv 0) (pa_cons (pv 1) pa_nil))) (pa_cons (pv 1) pa_nil))) (pa_cons pe_int pa_nil)))))
theorem ok__law_draw (T : Top K mg c_DEEPEST c_FEWEST_LEAVES c_KEPT_WORDS c_LETTERS c_LONGEST_WORD c_MOST_CELLS c_MOST_DIMENSIONS c_MOST_LEAVES C_Space C_BadDimensions C_CubeError) : Zdef P w K mg base 1 "_law_draw" ["box", "many"] (RelOf K [0] (t__law_draw K) 3 2) := by
  obtain ⟨f, fd, F, hm⟩ := T.f__law_draw
  exact def_z F hm sc__law_draw rfl rfl (F.binds fun _ _ _ _ _ _ us hl => match us, hl with | [_, _], _ => rfl) fun cdv A outer s H E hr =>
    (pss_cons (ps_set (i := 2) sc__law_draw.nd rfl (Or.inl rfl) (pe_ix ix_seq (pv 0) pe_int (fun _ _ => rfl)))
      (pss_cons (ps_asg (pe_op op_add (pv 2) pe_int) (pg_sub (pv 0) pe_int set_list))
      (pss_cons (ps_if (pt_cmpR op_lt (pv 2) (pe_callB call_len (by rfl) T.n_len (by decide +kernel) (pa_cons (pe_ix ix_seq (pv 0) pe_int (fun _ _ => rfl)) pa_nil)) (nomark _)) (pss_one (ps_ret (pe_op op_mod (pe_callTy call_int1 (by rfl) T.n_int (by decide +kernel) (pa_cons (pe_ix ix_seq (pe_ix ix_seq (pv 0) pe_int (fun _ _ => rfl)) (pv 2) (fun _ _ => rfl)) pa_nil)) (pv 1)))) pss_nil)
      (pss_one (ps_ret pe_int)))))
theorem ok__law_is_integer (T : Top K mg c_DEEPEST c_FEWEST_LEAVES c_KEPT_WORDS c_LETTERS c_LONGEST_WORD c_MOST_CELLS c_MOST_DIMENSIONS c_MOST_LEAVES C_Space C_BadDimensions C_CubeError) : Zdef P w K mg base 1 "_law_is_integer" ["actual"] (RelOf K [] (t__law_is_integer K) 1 1) := by
  obtain ⟨f, fd, F, hm⟩ := T.f__law_is_integer
  exact def_z F hm sc__law_is_integer rfl rfl (F.binds fun _ _ _ _ _ _ us hl => match us, hl with | [_], _ => rfl) fun cdv A outer s H E hr =>
    (pss_one (ps_ret (pe_and (pe_callB call_isi (by rfl) T.n_isinstance (by decide +kernel) (pa_cons (pv 0) (pa_cons (pe_bltn (by rfl) T.n_int (by decide +kernel) rfl) pa_nil))) (pe_one (pe_not (pe_callB call_isi (by rfl) T.n_isinstance (by decide +kernel) (pa_cons (pv 0) (pa_cons (pe_bltn (by rfl) T.n_bool (by decide +kernel) rfl) pa_nil))))))))
theorem ok__law_same {lv : Nat} (T : Top K mg c_DEEPEST c_FEWEST_LEAVES c_KEPT_WORDS c_LETTERS c_LONGEST_WORD c_MOST_CELLS c_MOST_DIMENSIONS c_MOST_LEAVES C_Space C_BadDimensions C_CubeError) {R__law_is_integer : Rel} (g__law_is_integer : Zdef P w K mg base 1 "_law_is_integer" ["actual"] R__law_is_integer) {R__law_same : Rel} (g__law_same : Zdef P w K mg base (lv + 1) "_law_same" ["actual", "due"] R__law_same) : Zdef P w K mg base (lv + 2) "_law_same" ["actual", "due"] (RelOf K [] (t__law_same K R__law_is_integer R__law_same) 3 2) := by
  obtain ⟨f, fd, F, hm⟩ := T.f__law_same
  exact def_z F hm sc__law_same rfl rfl (F.binds fun _ _ _ _ _ _ us hl => match us, hl with | [_, _], _ => rfl) fun cdv A outer s H E hr =>
    (pss_cons (ps_if (pt_val (pe_callB call_isi (by rfl) T.n_isinstance (by decide +kernel) (pa_cons (pv 1) (pa_cons (pe_bltn (by rfl) T.n_tuple (by decide +kernel) rfl) pa_nil)))) (pss_cons (ps_if (PW.pt (pw_or (pt_not (pt_val (pe_callB call_isi (by rfl) T.n_isinstance (by decide +kernel) (pa_cons (pv 0) (pa_cons (pe_bltn (by rfl) T.n_tuple (by decide +kernel) rfl) pa_nil))))) (pw_or1 (pt_cmpR op_ne (pe_callB call_len (by rfl) T.n_len (by decide +kernel) (pa_cons (pv 0) pa_nil)) (pe_callB call_len (by rfl) T.n_len (by decide +kernel) (pa_cons (pv 1) pa_nil)) (nomark _))))) (pss_one (ps_ret pe_bl)) pss_nil)
      (pss_one (ps_ret (pe_callB (cr_all rfl) (by rfl) T.n_all (by decide +kernel) (pa_cons (pe_lc (own := [("at", 2)]) (g := (gName 2)) (tt := tYes) rfl sc__law_same.nd (pi_range1 (by rfl) T.n_range (pa_cons (pe_callB call_len (by rfl) T.n_len (by decide +kernel) (pa_cons (pv 1) pa_nil)) pa_nil)) (blkOk_by (N := ["actual", "due", "at"]) (sc := defScope s__law_same) (by decide +kernel)) (fun _ _ _ _ _ => (pg_name (i := 2) sc__law_same.nd rfl (Or.inl rfl))) (fun _ _ _ _ _ => pts_nil) (fun _ _ _ _ _ => (pe_callZ g__law_same hr (by omega) (by rfl) (pa_cons (pe_ix ix_seq (pv 0) (pv 2) (fun _ _ => rfl)) (pa_cons (pe_ix ix_seq (pv 1) (pv 2) (fun _ _ => rfl)) pa_nil))))) pa_nil))))) pss_nil)
      (pss_cons (ps_if (pt_val (pe_callB call_isi (by rfl) T.n_isinstance (by decide +kernel) (pa_cons (pv 1) (pa_cons (pe_bltn (by rfl) T.n_bool (by decide +kernel) rfl) pa_nil)))) (pss_one (ps_ret (pe_and (pe_callB call_isi (by rfl) T.n_isinstance (by decide +kernel) (pa_cons (pv 0) (pa_cons (pe_bltn (by rfl) T.n_bool (by decide +kernel) rfl) pa_nil))) (pe_one (pe_cmpR op_eq (pv 0) (pv 1) (nomark _)))))) pss_nil)
      (pss_cons (ps_if (pt_val (pe_callB call_isi (by rfl) T.n_isinstance (by decide +kernel) (pa_cons (pv 1) (pa_cons (pe_bltn (by rfl) T.n_int (by decide +kernel) rfl) pa_nil)))) (pss_one (ps_ret (pe_and (pe_callZ g__law_is_integer hr (by omega) (by rfl) (pa_cons (pv 0) pa_nil)) (pe_one (pe_cmpR op_eq (pv 0) (pv 1) (nomark _)))))) pss_nil)
      (pss_cons (ps_if (pt_val (pe_callB call_isi (by rfl) T.n_isinstance (by decide +kernel) (pa_cons (pv 1) (pa_cons (pe_bltn (by rfl) T.n_str (by decide +kernel) rfl) pa_nil)))) (pss_one (ps_ret (pe_and (pe_callB call_isi (by rfl) T.n_isinstance (by decide +kernel) (pa_cons (pv 0) (pa_cons (pe_bltn (by rfl) T.n_str (by decide +kernel) rfl) pa_nil))) (pe_one (pe_cmpR op_eq (pv 0) (pv 1) (nomark _)))))) pss_nil)
      (pss_one (ps_ret (pe_and (pe_cmpR op_isN (pv 0) pe_non (nomark _)) (pe_one (pe_cmpR op_isN (pv 1) pe_non (nomark _))))))))))
theorem no__law_same (T : Top K mg c_DEEPEST c_FEWEST_LEAVES c_KEPT_WORDS c_LETTERS c_LONGEST_WORD c_MOST_CELLS c_MOST_DIMENSIONS c_MOST_LEAVES C_Space C_BadDimensions C_CubeError) (k : Nat) : Zdef P w K mg base k "_law_same" ["actual", "due"] (fun _ _ _ => False) := by
  obtain ⟨f, fd, F, hm⟩ := T.f__law_same
  exact zdef_none F hm (F.binds fun _ _ _ _ _ _ us hl => match us, hl with | [_, _], _ => rfl) k
theorem ok__law_is_word (T : Top K mg c_DEEPEST c_FEWEST_LEAVES c_KEPT_WORDS c_LETTERS c_LONGEST_WORD c_MOST_CELLS c_MOST_DIMENSIONS c_MOST_LEAVES C_Space C_BadDimensions C_CubeError) : Zdef P w K mg base 1 "_law_is_word" ["text"] (RelOf K [] (t__law_is_word K) 2 1) := by
  obtain ⟨f, fd, F, hm⟩ := T.f__law_is_word
  exact def_z F hm sc__law_is_word rfl rfl (F.binds fun _ _ _ _ _ _ us hl => match us, hl with | [_], _ => rfl) fun cdv A outer s H E hr =>
    (pss_cons (ps_if (PW.pt (pw_or (pt_cmpR op_lt (pe_callB call_len (by rfl) T.n_len (by decide +kernel) (pa_cons (pv 0) pa_nil)) pe_int (nomark _)) (pw_or (pt_cmpR op_gt (pe_callB call_len (by rfl) T.n_len (by decide +kernel) (pa_cons (pv 0) pa_nil)) pe_int (nomark _)) (pw_or1 (pt_cmpR op_in_seq (pv 0) (pe_tup (pa_cons pe_str (pa_cons pe_str (pa_cons pe_str (pa_cons pe_str pa_nil))))) (by with_unfolding_all rfl)))))) (pss_one (ps_ret pe_bl)) pss_nil)
      (pss_one (ps_ret (pe_callB (cr_all rfl) (by rfl) T.n_all (by decide +kernel) (pa_cons (pe_lc (own := [("sign", 1)]) (g := (gName 1)) (tt := tYes) rfl sc__law_is_word.nd (pi_str (pv 0)) (blkOk_by (N := ["text", "sign"]) (sc := defScope s__law_is_word) (by decide +kernel)) (fun _ _ _ _ _ => (pg_name (i := 1) sc__law_is_word.nd rfl (Or.inl rfl))) (fun _ _ _ _ _ => pts_nil) (fun _ _ _ _ _ => (pe_cmpR op_in_sign (pv 1) pe_str (by with_unfolding_all rfl)))) pa_nil)))))
theorem okh__law_is_word (T : Top K mg c_DEEPEST c_FEWEST_LEAVES c_KEPT_WORDS c_LETTERS c_LONGEST_WORD c_MOST_CELLS c_MOST_DIMENSIONS c_MOST_LEAVES C_Space C_BadDimensions C_CubeError) : Zdeh P w K mg base 1 "_law_is_word" ["text"] (RelOf K [] (K03.th__law_is_word K) 2 1) := by
  obtain ⟨f, fd, F, hm⟩ := T.f__law_is_word
  exact def_zh F hm sc__law_is_word rfl rfl (F.binds fun _ _ _ _ _ _ us hl => match us, hl with | [_], _ => rfl) fun cdv A outer s H E p hot hr =>
    (pss_cons (ps_if (PW.pt (pw_or (pt_cmpR op_lt (pe_callB call_len (by rfl) T.n_len (by decide +kernel) (pa_cons (pv 0) pa_nil)) pe_int (nomark _)) (pw_or (pt_cmpR op_gt (pe_callB call_len (by rfl) T.n_len (by decide +kernel) (pa_cons (pv 0) pa_nil)) pe_int (nomark _)) (pw_or1 (pt_cmpR op_in_seq (pv 0) (pe_tup (pa_cons pe_str (pa_cons pe_str (pa_cons pe_str (pa_cons pe_str pa_nil))))) (by with_unfolding_all rfl)))))) (pss_one (ps_ret pe_bl)) pss_nil)
      (pss_one (ps_ret (pe_callB (L2H.cr_allH (show L2H.HotC _ from ⟨p, hot, List.mem_singleton.mpr rfl⟩)) (by rfl) T.n_all (by decide +kernel) (pa_cons (L2H.pe_lcH (own := [("sign", 1)]) (g := (gName 1)) (tt := tYes) (show L2H.HotC _ from ⟨p, hot, List.mem_singleton.mpr rfl⟩) sc__law_is_word.nd (L2H.pi_strH (pv 0)) (blkOk_by (N := ["text", "sign"]) (sc := defScope s__law_is_word) (by decide +kernel)) (fun _ _ _ _ _ p hot => (pg_name (i := 1) sc__law_is_word.nd rfl (Or.inl rfl))) (fun _ _ _ _ _ p hot => pts_nil) (fun _ _ _ _ _ p hot => (pe_cmpR op_in_sign (pv 1) pe_str (by with_unfolding_all rfl)))) pa_nil)))))
theorem ok__law_a_text (T : Top K mg c_DEEPEST c_FEWEST_LEAVES c_KEPT_WORDS c_LETTERS c_LONGEST_WORD c_MOST_CELLS c_MOST_DIMENSIONS c_MOST_LEAVES C_Space C_BadDimensions C_CubeError) {R__law_draw : Rel} (g__law_draw : Zdef P w K mg base 1 "_law_draw" ["box", "many"] R__law_draw) : Zdef P w K mg base 2 "_law_a_text" ["box"] (RelOf K [0] (t__law_a_text K R__law_draw) 5 1) := by
  obtain ⟨f, fd, F, hm⟩ := T.f__law_a_text
  exact def_z F hm sc__law_a_text rfl rfl (F.binds fun _ _ _ _ _ _ us hl => match us, hl with | [_], _ => rfl) fun cdv A outer s H E hr =>
    (pss_cons (ps_set (i := 1) sc__law_a_text.nd rfl (Or.inl rfl) pe_str)
      (pss_cons (ps_if (pt_cmpR op_eq (pe_callZ g__law_draw hr (by omega) (by rfl) (pa_cons (pv 0) (pa_cons pe_int pa_nil))) pe_int (nomark _)) (pss_one (ps_ret (pe_ix ix_seq (pe_tup (pa_cons pe_str (pa_cons pe_str (pa_cons pe_str (pa_cons pe_str (pa_cons pe_str (pa_cons pe_str pa_nil))))))) (pe_callZ g__law_draw hr (by omega) (by rfl) (pa_cons (pv 0) (pa_cons pe_int pa_nil))) (fun _ _ => rfl)))) pss_nil)
      (pss_cons (ps_set (i := 2) sc__law_a_text.nd rfl (Or.inl rfl) pe_str)
      (pss_cons (ps_for PassesOwn.never rfl (pi_range1 (by rfl) T.n_range (pa_cons (pe_callZ g__law_draw hr (by omega) (by rfl) (pa_cons (pv 0) (pa_cons pe_int pa_nil))) pa_nil)) (pg_name (i := 3) sc__law_a_text.nd rfl (Or.inl rfl)) (pss_one (ps_set (i := 2) sc__law_a_text.nd rfl (Or.inl rfl) (pe_op op_add_str (pv 2) (pe_ix ix_seq (pv 1) (pe_callZ g__law_draw hr (by omega) (by rfl) (pa_cons (pv 0) (pa_cons pe_int pa_nil))) (fun _ _ => rfl))))))
      (pss_cons (ps_if (pt_cmpR op_eq (pe_callZ g__law_draw hr (by omega) (by rfl) (pa_cons (pv 0) (pa_cons pe_int pa_nil))) pe_int (nomark _)) (pss_cons (ps_set (i := 4) sc__law_a_text.nd rfl (Or.inl rfl) (pe_callZ g__law_draw hr (by omega) (by rfl) (pa_cons (pv 0) (pa_cons (pe_op op_add (pe_callB call_len (by rfl) T.n_len (by decide +kernel) (pa_cons (pv 2) pa_nil)) pe_int) pa_nil))))
      (pss_one (ps_set (i := 2) sc__law_a_text.nd rfl (Or.inl rfl) (pe_op op_add_str (pe_op op_add_str (pe_slice sl_str (pv 2) po_none (po_some (pv 4))) (pe_ix ix_seq pe_str (pe_callZ g__law_draw hr (by omega) (by rfl) (pa_cons (pv 0) (pa_cons pe_int pa_nil))) (fun _ _ => rfl))) (pe_slice sl_str (pv 2) (po_some (pv 4)) po_none))))) pss_nil)
      (pss_one (ps_ret (pv 2))))))))
theorem ok__law_word (T : Top K mg c_DEEPEST c_FEWEST_LEAVES c_KEPT_WORDS c_LETTERS c_LONGEST_WORD c_MOST_CELLS c_MOST_DIMENSIONS c_MOST_LEAVES C_Space C_BadDimensions C_CubeError) {R__law_draw : Rel} (g__law_draw : Zdef P w K mg base 1 "_law_draw" ["box", "many"] R__law_draw) : Zdef P w K mg base 2 "_law_word" ["box", "taken"] (RelOf K [0, 1] (t__law_word K R__law_draw) 7 2) := by
  obtain ⟨f, fd, F, hm⟩ := T.f__law_word
  exact def_z F hm sc__law_word rfl rfl (F.binds fun _ _ _ _ _ _ us hl => match us, hl with | [_, _], _ => rfl) fun cdv A outer s H E hr =>
    (pss_cons (ps_set (i := 2) sc__law_word.nd rfl (Or.inl rfl) pe_str)
      (pss_cons (ps_for PassesOwn.never rfl (pi_range1 (by rfl) T.n_range (pa_cons pe_int pa_nil)) (pg_name (i := 3) sc__law_word.nd rfl (Or.inl rfl)) (pss_cons (ps_set (i := 4) sc__law_word.nd rfl (Or.inl rfl) pe_str)
      (pss_cons (ps_for PassesOwn.never rfl (pi_range1 (by rfl) T.n_range (pa_cons (pe_op op_add pe_int (pe_op op_mul (pe_callZ g__law_draw hr (by omega) (by rfl) (pa_cons (pv 0) (pa_cons pe_int pa_nil))) (pe_callZ g__law_draw hr (by omega) (by rfl) (pa_cons (pv 0) (pa_cons pe_int pa_nil))))) pa_nil)) (pg_name (i := 5) sc__law_word.nd rfl (Or.inl rfl)) (pss_one (ps_set (i := 4) sc__law_word.nd rfl (Or.inl rfl) (pe_op op_add_str (pv 4) (pe_ix ix_seq (pv 2) (pe_callZ g__law_draw hr (by omega) (by rfl) (pa_cons (pv 0) (pa_cons pe_int pa_nil))) (fun _ _ => rfl))))))
      (pss_one (ps_if (PW.pt (pw_and (pt_cmpR op_notIn_seq (pv 4) (pv 1) (by with_unfolding_all rfl)) (pw_and1 (pt_cmpR op_notIn_seq (pv 4) (pe_tup (pa_cons pe_str (pa_cons pe_str (pa_cons pe_str (pa_cons pe_str pa_nil))))) (by with_unfolding_all rfl))))) (pss_one (ps_ret (pv 4))) pss_nil)))))
      (pss_cons (ps_for PassesOwn.never rfl (pi_str (pv 2)) (pg_name (i := 6) sc__law_word.nd rfl (Or.inl rfl)) (pss_one (ps_if (pt_cmpR op_notIn_seq (pv 6) (pv 1) (by with_unfolding_all rfl)) (pss_one (ps_ret (pv 6))) pss_nil)))
      (pss_one (ps_ret pe_str)))))
theorem ok__law_leaves (T : Top K mg c_DEEPEST c_FEWEST_LEAVES c_KEPT_WORDS c_LETTERS c_LONGEST_WORD c_MOST_CELLS c_MOST_DIMENSIONS c_MOST_LEAVES C_Space C_BadDimensions C_CubeError) {R__law_draw : Rel} (g__law_draw : Zdef P w K mg base 1 "_law_draw" ["box", "many"] R__law_draw) {R__law_word : Rel} (g__law_word : Zdef P w K mg base 2 "_law_word" ["box", "taken"] R__law_word) : Zdef P w K mg base 3 "_law_leaves" ["box", "depth", "many"] (RelOf K [0] (t__law_leaves K R__law_draw R__law_word) 12 3) := by
  obtain ⟨f, fd, F, hm⟩ := T.f__law_leaves
  exact def_z F hm sc__law_leaves rfl rfl (F.binds fun _ _ _ _ _ _ us hl => match us, hl with | [_, _, _], _ => rfl) fun cdv A outer s H E hr =>
    (pss_cons (ps_set (i := 3) sc__law_leaves.nd rfl (Or.inl rfl) (pe_lst pa_nil))
      (pss_cons (ps_for PassesOwn.never rfl (pi_range1 (by rfl) T.n_range (pa_cons (pv 1) pa_nil)) (pg_name (i := 4) sc__law_leaves.nd rfl (Or.inl rfl)) (pss_cons (ps_set (i := 5) sc__law_leaves.nd rfl (Or.inl rfl) (pe_lst pa_nil))
      (pss_cons (ps_for PassesOwn.never rfl (pi_range1 (by rfl) T.n_range (pa_cons (pv 2) pa_nil)) (pg_name (i := 6) sc__law_leaves.nd rfl (Or.inl rfl)) (pss_one (ps_if (PW.pt (pw_or (pt_cmpR op_eq (pv 4) (pe_op op_sub (pv 1) pe_int) (nomark _)) (pw_or1 (pt_cmpR op_lt (pv 6) pe_int (nomark _))))) (pss_one (ps_expr (pe_bm PySem.F.plainAttrs_list PySem.F.slot_list_append PySem.F.type_list_append mt_append (pv 5) (pa_cons (pe_callZ g__law_word hr (by omega) (by rfl) (pa_cons (pv 0) (pa_cons (pv 5) pa_nil))) pa_nil)))) pss_nil)))
      (pss_one (ps_expr (pe_bm PySem.F.plainAttrs_list PySem.F.slot_list_append PySem.F.type_list_append mt_append (pv 3) (pa_cons (pv 5) pa_nil)))))))
      (pss_cons (ps_set (i := 7) sc__law_leaves.nd rfl (Or.inl rfl) (pe_lst pa_nil))
      (pss_cons (ps_for PassesOwn.never rfl (pi_range1 (by rfl) T.n_range (pa_cons (pe_op op_mul pe_int (pv 2)) pa_nil)) (pg_name (i := 8) sc__law_leaves.nd rfl (Or.inl rfl)) (pss_cons (ps_set (i := 9) sc__law_leaves.nd rfl (Or.inl rfl) (pe_join pe_str (pe_lc (own := [("pool", 11)]) (g := (gName 11)) (tt := tYes) rfl sc__law_leaves.nd (pi_list (pv 3)) (blkOk_by (N := ["box", "depth", "many", "pools", "level", "words", "k", "paths", "turn", "path", "word", "pool"]) (sc := defScope s__law_leaves) (by decide +kernel)) (fun _ _ _ _ _ => (pg_name (i := 11) sc__law_leaves.nd rfl (Or.inl rfl))) (fun _ _ _ _ _ => pts_nil) (fun _ _ _ _ _ => (pe_ix ix_seq (pv 11) (pe_callZ g__law_draw hr (by omega) (by rfl) (pa_cons (pv 0) (pa_cons (pe_callB call_len (by rfl) T.n_len (by decide +kernel) (pa_cons (pv 11) pa_nil)) pa_nil))) (fun _ _ => rfl))))))
      (pss_one (ps_if (PW.pt (pw_and (pt_cmpR op_notIn_seq (pv 9) (pv 7) (by with_unfolding_all rfl)) (pw_and1 (pt_cmpR op_lt (pe_callB call_len (by rfl) T.n_len (by decide +kernel) (pa_cons (pv 7) pa_nil)) (pv 2) (nomark _))))) (pss_one (ps_expr (pe_bm PySem.F.plainAttrs_list PySem.F.slot_list_append PySem.F.type_list_append mt_append (pv 7) (pa_cons (pv 9) pa_nil)))) pss_nil))))
      (pss_cons (ps_for PassesOwn.never rfl (pi_list (pe_ix ix_seq (pv 3) (pe_un un_neg pe_int) (fun _ _ => rfl))) (pg_name (i := 10) sc__law_leaves.nd rfl (Or.inl rfl)) (pss_cons (ps_set (i := 9) sc__law_leaves.nd rfl (Or.inl rfl) (pe_join pe_str (pe_op op_cat (pe_lc (own := [("pool", 11)]) (g := (gName 11)) (tt := tYes) rfl sc__law_leaves.nd (pi_list (pe_slice sl_list (pv 3) po_none (po_some (pe_un un_neg pe_int)))) (blkOk_by (N := ["box", "depth", "many", "pools", "level", "words", "k", "paths", "turn", "path", "word", "pool"]) (sc := defScope s__law_leaves) (by decide +kernel)) (fun _ _ _ _ _ => (pg_name (i := 11) sc__law_leaves.nd rfl (Or.inl rfl))) (fun _ _ _ _ _ => pts_nil) (fun _ _ _ _ _ => (pe_ix ix_seq (pv 11) pe_int (fun _ _ => rfl)))) (pe_lst (pa_cons (pv 10) pa_nil)))))
      (pss_one (ps_if (PW.pt (pw_and (pt_cmpR op_notIn_seq (pv 9) (pv 7) (by with_unfolding_all rfl)) (pw_and1 (pt_cmpR op_lt (pe_callB call_len (by rfl) T.n_len (by decide +kernel) (pa_cons (pv 7) pa_nil)) pe_int (nomark _))))) (pss_one (ps_expr (pe_bm PySem.F.plainAttrs_list PySem.F.slot_list_append PySem.F.type_list_append mt_append (pv 7) (pa_cons (pv 9) pa_nil)))) pss_nil))))
      (pss_one (ps_ret (pe_callTy call_tuple_of (by rfl) T.n_tuple (by decide +kernel) (pa_cons (pe_callB cr_sortedS (by rfl) T.n_sorted (by decide +kernel) (pa_cons (pv 7) pa_nil)) pa_nil)))))))))
theorem ok__law_plain_leaves (T : Top K mg c_DEEPEST c_FEWEST_LEAVES c_KEPT_WORDS c_LETTERS c_LONGEST_WORD c_MOST_CELLS c_MOST_DIMENSIONS c_MOST_LEAVES C_Space C_BadDimensions C_CubeError) : Zdef P w K mg base 1 "_law_plain_leaves" ["depth", "many"] (RelOf K [] (t__law_plain_leaves K) 7 2) := by
  obtain ⟨f, fd, F, hm⟩ := T.f__law_plain_leaves
  exact def_z F hm sc__law_plain_leaves rfl rfl (F.binds fun _ _ _ _ _ _ us hl => match us, hl with | [_, _], _ => rfl) fun cdv A outer s H E hr =>
    (pss_cons (ps_set (i := 2) sc__law_plain_leaves.nd rfl (Or.inl rfl) pe_str)
      (pss_cons (ps_set (i := 3) sc__law_plain_leaves.nd rfl (Or.inl rfl) (pe_tup (pa_cons pe_str (pa_cons pe_str (pa_cons pe_str pa_nil)))))
      (pss_cons (ps_set (i := 4) sc__law_plain_leaves.nd rfl (Or.inl rfl) (pe_tup (pa_cons pe_str (pa_cons pe_str (pa_cons pe_str pa_nil)))))
      (pss_cons (ps_set (i := 5) sc__law_plain_leaves.nd rfl (Or.inl rfl) (pe_lst pa_nil))
      (pss_cons (ps_for PassesOwn.never rfl (pi_range1 (by rfl) T.n_range (pa_cons (pv 1) pa_nil)) (pg_name (i := 6) sc__law_plain_leaves.nd rfl (Or.inl rfl)) (pss_one (ps_if (pt_cmpR op_lt (pe_op op_mul pe_int (pv 6)) (pv 1) (nomark _)) (pss_one (ps_expr (pe_bm PySem.F.plainAttrs_list PySem.F.slot_list_append PySem.F.type_list_append mt_append (pv 5) (pa_cons (pe_op op_add_str (pe_ix ix_seq (pv 3) (pe_op op_sub (pv 0) pe_int) (fun _ _ => rfl)) (pe_ix ix_seq (pv 2) (pv 6) (fun _ _ => rfl))) pa_nil)))) (pss_one (ps_expr (pe_bm PySem.F.plainAttrs_list PySem.F.slot_list_append PySem.F.type_list_append mt_append (pv 5) (pa_cons (pe_op op_add_str (pe_ix ix_seq (pv 4) (pe_op op_sub (pv 0) pe_int) (fun _ _ => rfl)) (pe_ix ix_seq (pv 2) (pv 6) (fun _ _ => rfl))) pa_nil)))))))
      (pss_one (ps_ret (pe_callTy call_tuple_of (by rfl) T.n_tuple (by decide +kernel) (pa_cons (pv 5) pa_nil)))))))))
theorem ok__law_wide (T : Top K mg c_DEEPEST c_FEWEST_LEAVES c_KEPT_WORDS c_LETTERS c_LONGEST_WORD c_MOST_CELLS c_MOST_DIMENSIONS c_MOST_LEAVES C_Space C_BadDimensions C_CubeError) {R__law_box : Rel} (g__law_box : Zdef P w K mg base 2 "_law_box" ["script", "at"] R__law_box) {R__law_draw : Rel} (g__law_draw : Zdef P w K mg base 1 "_law_draw" ["box", "many"] R__law_draw) {R__law_leaves : Rel} (g__law_leaves : Zdef P w K mg base 3 "_law_leaves" ["box", "depth", "many"] R__law_leaves) {R__law_plain_leaves : Rel} (g__law_plain_leaves : Zdef P w K mg base 1 "_law_plain_leaves" ["depth", "many"] R__law_plain_leaves) {R__law_word : Rel} (g__law_word : Zdef P w K mg base 2 "_law_word" ["box", "taken"] R__law_word) : Zdef P w K mg base 4 "_law_wide" ["script", "first", "cells_left"] (RelOf K [] (t__law_wide K R__law_box R__law_draw R__law_leaves R__law_plain_leaves R__law_word) 13 3) := by
  obtain ⟨f, fd, F, hm⟩ := T.f__law_wide
  exact def_z F hm sc__law_wide rfl rfl (F.binds fun _ _ _ _ _ _ us hl => match us, hl with | [_, _, _], _ => rfl) fun cdv A outer s H E hr =>
    (pss_cons (ps_set (i := 3) sc__law_wide.nd rfl (Or.inl rfl) (pe_callZ g__law_box hr (by omega) (by rfl) (pa_cons (pv 0) (pa_cons (pv 1) pa_nil))))
      (pss_cons (ps_set (i := 4) sc__law_wide.nd rfl (Or.inl rfl) (pe_lst pa_nil))
      (pss_cons (ps_set (i := 5) sc__law_wide.nd rfl (Or.inl rfl) (pe_lst pa_nil))
      (pss_cons (ps_for PassesOwn.never rfl (pi_range1 (by rfl) T.n_range (pa_cons (pe_op op_add pe_int (pe_callZ g__law_draw hr (by omega) (by rfl) (pa_cons (pv 3) (pa_cons pe_int pa_nil)))) pa_nil)) (pg_name (i := 6) sc__law_wide.nd rfl (Or.inl rfl)) (pss_cons (ps_set (i := 7) sc__law_wide.nd rfl (Or.inl rfl) (pe_callZ g__law_box hr (by omega) (by rfl) (pa_cons (pv 0) (pa_cons (pe_op op_add (pe_op op_add (pv 1) pe_int) (pv 6)) pa_nil))))
      (pss_one (ps_if (pt_cmpR op_ge (pv 2) pe_int (nomark _)) (pss_cons (ps_set (i := 8) sc__law_wide.nd rfl (Or.inl rfl) (pe_op op_add pe_int (pe_callZ g__law_draw hr (by omega) (by rfl) (pa_cons (pv 7) (pa_cons pe_int pa_nil)))))
      (pss_cons (ps_set (i := 9) sc__law_wide.nd rfl (Or.inl rfl) (pe_callB (call_min2 rfl) (by rfl) T.n_min (by decide +kernel) (pa_cons (pe_op op_add pe_int (pe_callZ g__law_draw hr (by omega) (by rfl) (pa_cons (pv 7) (pa_cons pe_int pa_nil)))) (pa_cons (pv 2) pa_nil))))
      (pss_cons (ps_set (i := 10) sc__law_wide.nd rfl (Or.inl rfl) (pe_cmpR op_eq (pe_callZ g__law_draw hr (by omega) (by rfl) (pa_cons (pv 7) (pa_cons pe_int pa_nil))) pe_int (nomark _)))
      (pss_cons (ps_set (i := 11) sc__law_wide.nd rfl (Or.inl rfl) (pe_ifExp (pt_truth (pv 10) (by intro _; rfl)) (pe_callZ g__law_plain_leaves hr (by omega) (by rfl) (pa_cons (pv 8) (pa_cons (pv 9) pa_nil))) (pe_callZ g__law_leaves hr (by omega) (by rfl) (pa_cons (pv 7) (pa_cons (pv 8) (pa_cons (pv 9) pa_nil))))))
      (pss_cons (ps_set (i := 2) sc__law_wide.nd rfl (Or.inl rfl) (pe_op op_fdiv (pv 2) (pe_callB call_len (by rfl) T.n_len (by decide +kernel) (pa_cons (pv 11) pa_nil))))
      (pss_cons (ps_set (i := 12) sc__law_wide.nd rfl (Or.inl rfl) (pe_callZ g__law_word hr (by omega) (by rfl) (pa_cons (pv 7) (pa_cons (pv 5) pa_nil))))
      (pss_cons (ps_expr (pe_bm PySem.F.plainAttrs_list PySem.F.slot_list_append PySem.F.type_list_append mt_append (pv 5) (pa_cons (pv 12) pa_nil)))
      (pss_one (ps_expr (pe_bm PySem.F.plainAttrs_list PySem.F.slot_list_append PySem.F.type_list_append mt_append (pv 4) (pa_cons (pe_tup (pa_cons (pv 12) (pa_cons (pv 11) pa_nil))) pa_nil))))))))))) pss_nil))))
      (pss_one (ps_ret (pe_callTy call_tuple_of (by rfl) T.n_tuple (by decide +kernel) (pa_cons (pv 4) pa_nil))))))))
theorem ok__law_leaf_rows (T : Top K mg c_DEEPEST c_FEWEST_LEAVES c_KEPT_WORDS c_LETTERS c_LONGEST_WORD c_MOST_CELLS c_MOST_DIMENSIONS c_MOST_LEAVES C_Space C_BadDimensions C_CubeError) {R__law_is_word : Rel} (g__law_is_word : Zdef P w K mg base 1 "_law_is_word" ["text"] R__law_is_word) : Zdef P w K mg base 2 "_law_leaf_rows" ["leaves"] (RelOf K [] (K03.t__law_leaf_rows K R__law_is_word) 5 1) := by
  obtain ⟨f, fd, F, hm⟩ := T.f__law_leaf_rows
  exact def_z F hm sc__law_leaf_rows rfl rfl (F.binds fun _ _ _ _ _ _ us hl => match us, hl with | [_], _ => rfl) fun cdv A outer s H E hr =>
    (pss_cons (ps_if (PW.pt (pw_or (pt_cmpR op_lt (pe_callB call_len (by rfl) T.n_len (by decide +kernel) (pa_cons (pv 0) pa_nil)) pe_int (nomark _)) (pw_or1 (pt_cmpR op_gt (pe_callB call_len (by rfl) T.n_len (by decide +kernel) (pa_cons (pv 0) pa_nil)) pe_int (nomark _))))) (pss_one (ps_ret pe_bl)) pss_nil)
      (pss_cons (ps_set (i := 1) sc__law_leaf_rows.nd rfl (Or.inl rfl) (pe_callB call_len (by rfl) T.n_len (by decide +kernel) (pa_cons (pe_split (pe_ix ix_seq (pv 0) pe_int (fun _ _ => rfl)) pe_str) pa_nil)))
      (pss_cons (ps_if (pt_cmpR op_gt (pv 1) pe_int (nomark _)) (pss_one (ps_ret pe_bl)) pss_nil)
      (pss_cons (ps_for PassesOwn.never rfl (pi_range1 (by rfl) T.n_range (pa_cons (pe_callB call_len (by rfl) T.n_len (by decide +kernel) (pa_cons (pv 0) pa_nil)) pa_nil)) (pg_name (i := 2) sc__law_leaf_rows.nd rfl (Or.inl rfl)) (pss_cons (ps_set (i := 3) sc__law_leaf_rows.nd rfl (Or.inl rfl) (pe_split (pe_ix ix_seq (pv 0) (pv 2) (fun _ _ => rfl)) pe_str))
      (pss_cons (ps_if (PW.pt (pw_or (pt_cmpR op_ne (pe_callB call_len (by rfl) T.n_len (by decide +kernel) (pa_cons (pv 3) pa_nil)) (pv 1) (nomark _)) (pw_or1 (pt_not (pt_val (pe_callB (cr_all rfl) (by rfl) T.n_all (by decide +kernel) (pa_cons (pe_lc (own := [("word", 4)]) (g := (gName 4)) (tt := tYes) rfl sc__law_leaf_rows.nd (pi_list (pv 3)) (blkOk_by (N := ["leaves", "depth", "at", "words", "word"]) (sc := defScope s__law_leaf_rows) (by decide +kernel)) (fun _ _ _ _ _ => (pg_name (i := 4) sc__law_leaf_rows.nd rfl (Or.inl rfl))) (fun _ _ _ _ _ => pts_nil) (fun _ _ _ _ _ => (pe_callZ g__law_is_word hr (by omega) (by rfl) (pa_cons (pv 4) pa_nil)))) pa_nil))))))) (pss_one (ps_ret pe_bl)) pss_nil)
      (pss_one (ps_if (PW.pt (pw_and (pt_cmpR op_gt (pv 2) pe_int (nomark _)) (pw_and1 (pt_cmpR op_le_str (pe_ix ix_seq (pv 0) (pv 2) (fun _ _ => rfl)) (pe_ix ix_seq (pv 0) (pe_op op_sub (pv 2) pe_int) (fun _ _ => rfl)) (nomark _))))) (pss_one (ps_ret pe_bl)) pss_nil)))))
      (pss_one (ps_ret pe_bl))))))
theorem okh__law_leaf_rows (T : Top K mg c_DEEPEST c_FEWEST_LEAVES c_KEPT_WORDS c_LETTERS c_LONGEST_WORD c_MOST_CELLS c_MOST_DIMENSIONS c_MOST_LEAVES C_Space C_BadDimensions C_CubeError) {Rh__law_is_word : Rel} (gh__law_is_word : Zdeh P w K mg base 1 "_law_is_word" ["text"] Rh__law_is_word) : Zdeh P w K mg base 2 "_law_leaf_rows" ["leaves"] (RelOf K [] (K03.th__law_leaf_rows K Rh__law_is_word) 5 1) := by
  obtain ⟨f, fd, F, hm⟩ := T.f__law_leaf_rows
  exact def_zh F hm sc__law_leaf_rows rfl rfl (F.binds fun _ _ _ _ _ _ us hl => match us, hl with | [_], _ => rfl) fun cdv A outer s H E p hot hr =>
    (pss_cons (ps_if (PW.pt (pw_or (pt_cmpR op_lt (pe_callB call_len (by rfl) T.n_len (by decide +kernel) (pa_cons (pv 0) pa_nil)) pe_int (nomark _)) (pw_or1 (pt_cmpR op_gt (pe_callB call_len (by rfl) T.n_len (by decide +kernel) (pa_cons (pv 0) pa_nil)) pe_int (nomark _))))) (pss_one (ps_ret pe_bl)) pss_nil)
      (pss_cons (ps_set (i := 1) sc__law_leaf_rows.nd rfl (Or.inl rfl) (pe_callB call_len (by rfl) T.n_len (by decide +kernel) (pa_cons (pe_split (pe_ix ix_seq (pv 0) pe_int (fun _ _ => rfl)) pe_str) pa_nil)))
      (pss_cons (ps_if (pt_cmpR op_gt (pv 1) pe_int (nomark _)) (pss_one (ps_ret pe_bl)) pss_nil)
      (pss_cons (L2H.ps_forH (passes_of rfl) (show L2H.HotC _ from ⟨p, hot, List.mem_singleton.mpr rfl⟩) (L2H.pi_range1H (by rfl) T.n_range (pa_cons (pe_callB call_len (by rfl) T.n_len (by decide +kernel) (pa_cons (pv 0) pa_nil)) pa_nil)) (pg_name (i := 2) sc__law_leaf_rows.nd rfl (Or.inl rfl)) (pss_cons (ps_set (i := 3) sc__law_leaf_rows.nd rfl (Or.inl rfl) (pe_split (pe_ix ix_seq (pv 0) (pv 2) (fun _ _ => rfl)) pe_str))
      (pss_cons (ps_if (PW.pt (pw_or (pt_cmpR op_ne (pe_callB call_len (by rfl) T.n_len (by decide +kernel) (pa_cons (pv 3) pa_nil)) (pv 1) (nomark _)) (pw_or1 (pt_not (pt_val (pe_callB (L2H.cr_allH (show L2H.HotC _ from ⟨p, hot, List.mem_singleton.mpr rfl⟩)) (by rfl) T.n_all (by decide +kernel) (pa_cons (L2H.pe_lcH (own := [("word", 4)]) (g := (gName 4)) (tt := tYes) (show L2H.HotC _ from ⟨p, hot, List.mem_singleton.mpr rfl⟩) sc__law_leaf_rows.nd (L2H.pi_listH (pv 3)) (blkOk_by (N := ["leaves", "depth", "at", "words", "word"]) (sc := defScope s__law_leaf_rows) (by decide +kernel)) (fun _ _ _ _ _ p hot => (pg_name (i := 4) sc__law_leaf_rows.nd rfl (Or.inl rfl))) (fun _ _ _ _ _ p hot => pts_nil) (fun _ _ _ _ _ p hot => (pe_callZH gh__law_is_word hr (by omega) (show L2H.HotC _ from ⟨p, hot, List.mem_singleton.mpr rfl⟩) (by rfl) (pa_cons (pv 4) pa_nil)))) pa_nil))))))) (pss_one (ps_ret pe_bl)) pss_nil)
      (pss_one (ps_if (PW.pt (pw_and (pt_cmpR op_gt (pv 2) pe_int (nomark _)) (pw_and1 (pt_cmpR op_le_str (pe_ix ix_seq (pv 0) (pv 2) (fun _ _ => rfl)) (pe_ix ix_seq (pv 0) (pe_op op_sub (pv 2) pe_int) (fun _ _ => rfl)) (nomark _))))) (pss_one (ps_ret pe_bl)) pss_nil)))))
      (pss_one (ps_ret pe_bl))))))
theorem ok__law_are_dimensions (T : Top K mg c_DEEPEST c_FEWEST_LEAVES c_KEPT_WORDS c_LETTERS c_LONGEST_WORD c_MOST_CELLS c_MOST_DIMENSIONS c_MOST_LEAVES C_Space C_BadDimensions C_CubeError) {R__law_is_word : Rel} (g__law_is_word : Zdef P w K mg base 1 "_law_is_word" ["text"] R__law_is_word) {R__law_leaf_rows : Rel} (g__law_leaf_rows : Zdef P w K mg base 2 "_law_leaf_rows" ["leaves"] R__law_leaf_rows) : Zdef P w K mg base 3 "_law_are_dimensions" ["dimensions"] (RelOf K [] (K03.t__law_are_dimensions K R__law_is_word R__law_leaf_rows) 5 1) := by
  obtain ⟨f, fd, F, hm⟩ := T.f__law_are_dimensions
  exact def_z F hm sc__law_are_dimensions rfl rfl (F.binds fun _ _ _ _ _ _ us hl => match us, hl with | [_], _ => rfl) fun cdv A outer s H E hr =>
    (pss_cons (ps_if (PW.pt (pw_or (pt_cmpR op_lt (pe_callB call_len (by rfl) T.n_len (by decide +kernel) (pa_cons (pv 0) pa_nil)) pe_int (nomark _)) (pw_or1 (pt_cmpR op_gt (pe_callB call_len (by rfl) T.n_len (by decide +kernel) (pa_cons (pv 0) pa_nil)) pe_int (nomark _))))) (pss_one (ps_ret pe_bl)) pss_nil)
      (pss_cons (ps_setLc (i := 1) (own := [("dimension", 4)]) (g := (gName 4)) (tt := tYes) rfl sc__law_are_dimensions.nd rfl rfl (sw_true rfl rfl rfl (by decide +kernel)) (pi_tup (pv 0)) (blkOk_by (N := ["dimensions", "names", "cells", "at", "dimension"]) (sc := defScope s__law_are_dimensions) (by decide +kernel)) (fun _ _ _ _ _ => (pg_name (i := 4) sc__law_are_dimensions.nd rfl (Or.inl rfl))) (fun _ _ _ _ _ => pts_nil) (fun _ _ _ _ _ => (pe_ix ix_seq (pv 4) pe_int (fun _ _ => rfl))))
      (pss_cons (ps_set (i := 2) sc__law_are_dimensions.nd rfl (Or.inl rfl) pe_int)
      (pss_cons (ps_for PassesOwn.never rfl (pi_range1 (by rfl) T.n_range (pa_cons (pe_callB call_len (by rfl) T.n_len (by decide +kernel) (pa_cons (pv 0) pa_nil)) pa_nil)) (pg_name (i := 3) sc__law_are_dimensions.nd rfl (Or.inl rfl)) (pss_cons (ps_if (PW.pt (pw_or (pt_not (pt_val (pe_callZ g__law_is_word hr (by omega) (by rfl) (pa_cons (pe_ix ix_seq (pv 1) (pv 3) (fun _ _ => rfl)) pa_nil)))) (pw_or (pt_cmpR op_in_seq (pe_ix ix_seq (pv 1) (pv 3) (fun _ _ => rfl)) (pe_slice sl_list (pv 1) po_none (po_some (pv 3))) (by with_unfolding_all rfl)) (pw_or1 (pt_not (pt_val (pe_callZ g__law_leaf_rows hr (by omega) (by rfl) (pa_cons (pe_ix ix_seq (pe_ix ix_seq (pv 0) (pv 3) (fun _ _ => rfl)) pe_int (fun _ _ => rfl)) pa_nil)))))))) (pss_one (ps_ret pe_bl)) pss_nil)
      (pss_one (ps_set (i := 2) sc__law_are_dimensions.nd rfl (Or.inl rfl) (pe_op op_mul (pv 2) (pe_callB call_len (by rfl) T.n_len (by decide +kernel) (pa_cons (pe_ix ix_seq (pe_ix ix_seq (pv 0) (pv 3) (fun _ _ => rfl)) pe_int (fun _ _ => rfl)) pa_nil)))))))
      (pss_one (ps_ret (pe_cmpR op_le (pv 2) pe_int (nomark _))))))))
theorem okh__law_are_dimensions (T : Top K mg c_DEEPEST c_FEWEST_LEAVES c_KEPT_WORDS c_LETTERS c_LONGEST_WORD c_MOST_CELLS c_MOST_DIMENSIONS c_MOST_LEAVES C_Space C_BadDimensions C_CubeError) {Rh__law_is_word : Rel} (gh__law_is_word : Zdeh P w K mg base 1 "_law_is_word" ["text"] Rh__law_is_word) {Rh__law_leaf_rows : Rel} (gh__law_leaf_rows : Zdeh P w K mg base 2 "_law_leaf_rows" ["leaves"] Rh__law_leaf_rows) : Zdeh P w K mg base 3 "_law_are_dimensions" ["dimensions"] (RelOf K [] (K03.th__law_are_dimensions K Rh__law_is_word Rh__law_leaf_rows) 5 1) := by
  obtain ⟨f, fd, F, hm⟩ := T.f__law_are_dimensions
  exact def_zh F hm sc__law_are_dimensions rfl rfl (F.binds fun _ _ _ _ _ _ us hl => match us, hl with | [_], _ => rfl) fun cdv A outer s H E p hot hr =>
    (pss_cons (ps_if (PW.pt (pw_or (pt_cmpR op_lt (pe_callB call_len (by rfl) T.n_len (by decide +kernel) (pa_cons (pv 0) pa_nil)) pe_int (nomark _)) (pw_or1 (pt_cmpR op_gt (pe_callB call_len (by rfl) T.n_len (by decide +kernel) (pa_cons (pv 0) pa_nil)) pe_int (nomark _))))) (pss_one (ps_ret pe_bl)) pss_nil)
      (pss_cons (L2H.ps_setLcH (i := 1) (own := [("dimension", 4)]) (g := (gName 4)) (tt := tYes) (show L2H.HotC _ from ⟨p, hot, List.mem_singleton.mpr rfl⟩) sc__law_are_dimensions.nd rfl rfl (sw_true rfl rfl rfl (by decide +kernel)) (L2H.pi_tupH (pv 0)) (blkOk_by (N := ["dimensions", "names", "cells", "at", "dimension"]) (sc := defScope s__law_are_dimensions) (by decide +kernel)) (fun _ _ _ _ _ p hot => (pg_name (i := 4) sc__law_are_dimensions.nd rfl (Or.inl rfl))) (fun _ _ _ _ _ p hot => pts_nil) (fun _ _ _ _ _ p hot => (pe_ix ix_seq (pv 4) pe_int (fun _ _ => rfl))))
      (pss_cons (ps_set (i := 2) sc__law_are_dimensions.nd rfl (Or.inl rfl) pe_int)
      (pss_cons (L2H.ps_forH (passes_of rfl) (show L2H.HotC _ from ⟨p, hot, List.mem_singleton.mpr rfl⟩) (L2H.pi_range1H (by rfl) T.n_range (pa_cons (pe_callB call_len (by rfl) T.n_len (by decide +kernel) (pa_cons (pv 0) pa_nil)) pa_nil)) (pg_name (i := 3) sc__law_are_dimensions.nd rfl (Or.inl rfl)) (pss_cons (ps_if (PW.pt (pw_or (pt_not (pt_val (pe_callZH gh__law_is_word hr (by omega) (show L2H.HotC _ from ⟨p, hot, List.mem_singleton.mpr rfl⟩) (by rfl) (pa_cons (pe_ix ix_seq (pv 1) (pv 3) (fun _ _ => rfl)) pa_nil)))) (pw_or (pt_cmpR op_in_seq (pe_ix ix_seq (pv 1) (pv 3) (fun _ _ => rfl)) (pe_slice sl_list (pv 1) po_none (po_some (pv 3))) (by with_unfolding_all rfl)) (pw_or1 (pt_not (pt_val (pe_callZH gh__law_leaf_rows hr (by omega) (show L2H.HotC _ from ⟨p, hot, List.mem_singleton.mpr rfl⟩) (by rfl) (pa_cons (pe_ix ix_seq (pe_ix ix_seq (pv 0) (pv 3) (fun _ _ => rfl)) pe_int (fun _ _ => rfl)) pa_nil)))))))) (pss_one (ps_ret pe_bl)) pss_nil)
      (pss_one (ps_set (i := 2) sc__law_are_dimensions.nd rfl (Or.inl rfl) (pe_op op_mul (pv 2) (pe_callB call_len (by rfl) T.n_len (by decide +kernel) (pa_cons (pe_ix ix_seq (pe_ix ix_seq (pv 0) (pv 3) (fun _ _ => rfl)) pe_int (fun _ _ => rfl)) pa_nil)))))))
      (pss_one (ps_ret (pe_cmpR op_le (pv 2) pe_int (nomark _))))))))
theorem ok__law_changed_leaves (T : Top K mg c_DEEPEST c_FEWEST_LEAVES c_KEPT_WORDS c_LETTERS c_LONGEST_WORD c_MOST_CELLS c_MOST_DIMENSIONS c_MOST_LEAVES C_Space C_BadDimensions C_CubeError) {R__law_a_text : Rel} (g__law_a_text : Zdef P w K mg base 2 "_law_a_text" ["box"] R__law_a_text) {R__law_draw : Rel} (g__law_draw : Zdef P w K mg base 1 "_law_draw" ["box", "many"] R__law_draw) {R__law_word : Rel} (g__law_word : Zdef P w K mg base 2 "_law_word" ["box", "taken"] R__law_word) : Zdef P w K mg base 3 "_law_changed_leaves" ["box", "leaves"] (RelOf K [0] (K03.t__law_changed_leaves K R__law_a_text R__law_draw R__law_word) 10 2) := by
  obtain ⟨f, fd, F, hm⟩ := T.f__law_changed_leaves
  exact def_z F hm sc__law_changed_leaves rfl rfl (F.binds fun _ _ _ _ _ _ us hl => match us, hl with | [_, _], _ => rfl) fun cdv A outer s H E hr =>
    (pss_cons (ps_set (i := 2) sc__law_changed_leaves.nd rfl (Or.inl rfl) (pe_callTy call_list_of (by rfl) T.n_list (by decide +kernel) (pa_cons (pv 1) pa_nil)))
      (pss_cons (ps_set (i := 3) sc__law_changed_leaves.nd rfl (Or.inl rfl) (pe_callZ g__law_draw hr (by omega) (by rfl) (pa_cons (pv 0) (pa_cons (pe_callB call_len (by rfl) T.n_len (by decide +kernel) (pa_cons (pv 2) pa_nil)) pa_nil))))
      (pss_cons (ps_set (i := 4) sc__law_changed_leaves.nd rfl (Or.inl rfl) (pe_callZ g__law_draw hr (by omega) (by rfl) (pa_cons (pv 0) (pa_cons (pe_callB call_len (by rfl) T.n_len (by decide +kernel) (pa_cons (pv 2) pa_nil)) pa_nil))))
      (pss_cons (ps_set (i := 5) sc__law_changed_leaves.nd rfl (Or.inl rfl) (pe_callZ g__law_draw hr (by omega) (by rfl) (pa_cons (pv 0) (pa_cons pe_int pa_nil))))
      (pss_cons (ps_if (pt_cmpR op_eq (pv 5) pe_int (nomark _)) (pss_one (ps_set (i := 2) sc__law_changed_leaves.nd rfl (Or.inl rfl) (pe_slice sl_list (pv 2) po_none (po_some pe_int)))) (pss_one (ps_if (pt_cmpR op_eq (pv 5) pe_int (nomark _)) (pss_cons (ps_asg (pe_ix ix_seq (pv 1) (pv 4) (fun _ _ => rfl)) (pg_sub (pv 2) (pv 3) set_list))
      (pss_one (ps_asg (pe_ix ix_seq (pv 1) (pv 3) (fun _ _ => rfl)) (pg_sub (pv 2) (pv 4) set_list)))) (pss_one (ps_if (pt_cmpR op_eq (pv 5) pe_int (nomark _)) (pss_one (ps_set (i := 2) sc__law_changed_leaves.nd rfl (Or.inl rfl) (pe_op op_cat (pe_op op_cat (pe_slice sl_list (pv 2) po_none (po_some (pv 3))) (pe_lst (pa_cons (pe_ix ix_seq (pv 2) (pv 3) (fun _ _ => rfl)) pa_nil))) (pe_slice sl_list (pv 2) (po_some (pv 3)) po_none)))) (pss_one (ps_if (pt_cmpR op_eq (pv 5) pe_int (nomark _)) (pss_one (ps_setLc (i := 2) (own := [("row", 8)]) (g := (gName 8)) (tt := tYes) rfl sc__law_changed_leaves.nd rfl rfl (sw_true rfl rfl rfl (by decide +kernel)) (pi_list (pv 2)) (blkOk_by (N := ["box", "leaves", "rows", "at", "other", "kind", "words", "marks", "row", "k"]) (sc := defScope s__law_changed_leaves) (by decide +kernel)) (fun _ _ _ _ _ => (pg_name (i := 8) sc__law_changed_leaves.nd rfl (Or.inl rfl))) (fun _ _ _ _ _ => pts_nil) (fun _ _ _ _ _ => (pe_op op_add_str (pe_op op_add_str (pv 8) pe_str) (pe_callZ g__law_word hr (by omega) (by rfl) (pa_cons (pv 0) (pa_cons (pe_lst pa_nil) pa_nil))))))) (pss_one (ps_if (pt_cmpR op_eq (pv 5) pe_int (nomark _)) (pss_one (ps_asg (pe_op op_add_str (pe_op op_add_str (pe_ix ix_seq (pv 2) (pv 3) (fun _ _ => rfl)) pe_str) (pe_callZ g__law_word hr (by omega) (by rfl) (pa_cons (pv 0) (pa_cons (pe_lst pa_nil) pa_nil)))) (pg_sub (pv 2) (pv 3) set_list))) (pss_one (ps_if (pt_cmpR op_eq (pv 5) pe_int (nomark _)) (pss_cons (ps_set (i := 6) sc__law_changed_leaves.nd rfl (Or.inl rfl) (pe_split (pe_ix ix_seq (pv 2) (pv 3) (fun _ _ => rfl)) pe_str))
      (pss_cons (ps_asg (pe_callZ g__law_a_text hr (by omega) (by rfl) (pa_cons (pv 0) pa_nil)) (pg_sub (pv 6) (pe_callZ g__law_draw hr (by omega) (by rfl) (pa_cons (pv 0) (pa_cons (pe_callB call_len (by rfl) T.n_len (by decide +kernel) (pa_cons (pv 6) pa_nil)) pa_nil))) set_list))
      (pss_one (ps_asg (pe_join pe_str (pv 6)) (pg_sub (pv 2) (pv 3) set_list))))) (pss_one (ps_if (pt_cmpR op_eq (pv 5) pe_int (nomark _)) (pss_cons (ps_set (i := 7) sc__law_changed_leaves.nd rfl (Or.inr rfl) pe_str)
      (pss_one (ps_setLc (i := 2) (own := [("k", 9)]) (g := (gName 9)) (tt := tYes) rfl sc__law_changed_leaves.nd rfl rfl (sw_true rfl rfl rfl (by decide +kernel)) (pi_range1 (by rfl) T.n_range (pa_cons (pe_op op_add pe_int (pe_callZ g__law_draw hr (by omega) (by rfl) (pa_cons (pv 0) (pa_cons pe_int pa_nil)))) pa_nil)) (blkOk_by (N := ["box", "leaves", "rows", "at", "other", "kind", "words", "marks", "row", "k"]) (sc := defScope s__law_changed_leaves) (by decide +kernel)) (fun _ _ _ _ _ => (pg_name (i := 9) sc__law_changed_leaves.nd rfl (Or.inl rfl))) (fun _ _ _ _ _ => pts_nil) (fun _ _ _ _ _ => (pe_ix ix_seq (pv 7) (pv 9) (fun _ _ => rfl)))))) (pss_one (ps_asg pe_str (pg_sub (pv 2) (pv 3) set_list))))))))))))))))
      (pss_one (ps_ret (pe_callTy call_tuple_of (by rfl) T.n_tuple (by decide +kernel) (pa_cons (pv 2) pa_nil)))))))))
theorem ok__law_changed (T : Top K mg c_DEEPEST c_FEWEST_LEAVES c_KEPT_WORDS c_LETTERS c_LONGEST_WORD c_MOST_CELLS c_MOST_DIMENSIONS c_MOST_LEAVES C_Space C_BadDimensions C_CubeError) {R__law_a_text : Rel} (g__law_a_text : Zdef P w K mg base 2 "_law_a_text" ["box"] R__law_a_text) {R__law_changed_leaves : Rel} (g__law_changed_leaves : Zdef P w K mg base 3 "_law_changed_leaves" ["box", "leaves"] R__law_changed_leaves) {R__law_draw : Rel} (g__law_draw : Zdef P w K mg base 1 "_law_draw" ["box", "many"] R__law_draw) {R__law_word : Rel} (g__law_word : Zdef P w K mg base 2 "_law_word" ["box", "taken"] R__law_word) : Zdef P w K mg base 4 "_law_changed" ["box", "dimensions"] (RelOf K [0, 1] (K03.t__law_changed K R__law_a_text R__law_changed_leaves R__law_draw R__law_word) 5 2) := by
  obtain ⟨f, fd, F, hm⟩ := T.f__law_changed
  exact def_z F hm sc__law_changed rfl rfl (F.binds fun _ _ _ _ _ _ us hl => match us, hl with | [_, _], _ => rfl) fun cdv A outer s H E hr =>
    (pss_cons (ps_set (i := 2) sc__law_changed.nd rfl (Or.inl rfl) (pe_callZ g__law_draw hr (by omega) (by rfl) (pa_cons (pv 0) (pa_cons (pe_callB call_len (by rfl) T.n_len (by decide +kernel) (pa_cons (pv 1) pa_nil)) pa_nil))))
      (pss_cons (ps_set (i := 3) sc__law_changed.nd rfl (Or.inl rfl) (pe_callZ g__law_draw hr (by omega) (by rfl) (pa_cons (pv 0) (pa_cons pe_int pa_nil))))
      (pss_cons (ps_if (pt_cmpR op_eq (pv 3) pe_int (nomark _)) (pss_one (ps_ret (pe_slice sl_list (pv 1) po_none (po_some (pv 2))))) pss_nil)
      (pss_cons (ps_if (pt_cmpR op_eq (pv 3) pe_int (nomark _)) (pss_one (ps_ret (pe_op op_cat (pe_op op_cat (pe_slice sl_list (pv 1) po_none (po_some (pv 2))) (pe_lst (pa_cons (pe_tup (pa_cons (pe_callZ g__law_a_text hr (by omega) (by rfl) (pa_cons (pv 0) pa_nil)) (pa_cons (pe_ix ix_seq (pe_ix ix_seq (pv 1) (pv 2) (fun _ _ => rfl)) pe_int (fun _ _ => rfl)) pa_nil))) pa_nil))) (pe_slice sl_list (pv 1) (po_some (pe_op op_add (pv 2) pe_int)) po_none)))) pss_nil)
      (pss_cons (ps_if (pt_cmpR op_eq (pv 3) pe_int (nomark _)) (pss_one (ps_ret (pe_op op_cat (pv 1) (pe_lst (pa_cons (pe_tup (pa_cons (pe_callZ g__law_word hr (by omega) (by rfl) (pa_cons (pv 0) (pa_cons (pe_lc (own := [("row", 4)]) (g := (gName 4)) (tt := tYes) rfl sc__law_changed.nd (pi_list (pv 1)) (blkOk_by (N := ["box", "dimensions", "at", "kind", "row"]) (sc := defScope s__law_changed) (by decide +kernel)) (fun _ _ _ _ _ => (pg_name (i := 4) sc__law_changed.nd rfl (Or.inl rfl))) (fun _ _ _ _ _ => pts_nil) (fun _ _ _ _ _ => (pe_ix ix_seq (pv 4) pe_int (fun _ _ => rfl)))) pa_nil))) (pa_cons (pe_ix ix_seq (pe_ix ix_seq (pv 1) (pv 2) (fun _ _ => rfl)) pe_int (fun _ _ => rfl)) pa_nil))) pa_nil))))) pss_nil)
      (pss_cons (ps_if (pt_cmpR op_eq (pv 3) pe_int (nomark _)) (pss_one (ps_ret (pe_op op_cat (pv 1) (pe_lst (pa_cons (pe_ix ix_seq (pv 1) (pv 2) (fun _ _ => rfl)) pa_nil))))) pss_nil)
      (pss_one (ps_ret (pe_op op_cat (pe_op op_cat (pe_slice sl_list (pv 1) po_none (po_some (pv 2))) (pe_lst (pa_cons (pe_tup (pa_cons (pe_ix ix_seq (pe_ix ix_seq (pv 1) (pv 2) (fun _ _ => rfl)) pe_int (fun _ _ => rfl)) (pa_cons (pe_callZ g__law_changed_leaves hr (by omega) (by rfl) (pa_cons (pv 0) (pa_cons (pe_ix ix_seq (pe_ix ix_seq (pv 1) (pv 2) (fun _ _ => rfl)) pe_int (fun _ _ => rfl)) pa_nil))) pa_nil))) pa_nil))) (pe_slice sl_list (pv 1) (po_some (pe_op op_add (pv 2) pe_int)) po_none))))))))))
theorem ok_law (T : Top K mg c_DEEPEST c_FEWEST_LEAVES c_KEPT_WORDS c_LETTERS c_LONGEST_WORD c_MOST_CELLS c_MOST_DIMENSIONS c_MOST_LEAVES C_Space C_BadDimensions C_CubeError) {Rh__law_are_dimensions : Rel} (gh__law_are_dimensions : Zdeh P w K mg base 3 "_law_are_dimensions" ["dimensions"] Rh__law_are_dimensions) {Rx_Space : Rel} {RX_Space : RelX} (gx_Space : Zmax P w K mg base 5 "Space" C_Space ["self", "dimensions"] Rx_Space RX_Space) {R__law_are_dimensions : Rel} (g__law_are_dimensions : Zdef P w K mg base 3 "_law_are_dimensions" ["dimensions"] R__law_are_dimensions) {R__law_box : Rel} (g__law_box : Zdef P w K mg base 2 "_law_box" ["script", "at"] R__law_box) {R__law_changed : Rel} (g__law_changed : Zdef P w K mg base 4 "_law_changed" ["box", "dimensions"] R__law_changed) {R__law_draw : Rel} (g__law_draw : Zdef P w K mg base 1 "_law_draw" ["box", "many"] R__law_draw) {R__law_same : Rel} (g__law_same : Zdef P w K mg base 5 "_law_same" ["actual", "due"] R__law_same) {R__law_wide : Rel} (g__law_wide : Zdef P w K mg base 4 "_law_wide" ["script", "first", "cells_left"] R__law_wide) : Zdef P w K mg base 7 "law" ["script"] (RelOf K [] (K03.t_law K Rh__law_are_dimensions Rx_Space RX_Space R__law_are_dimensions R__law_box R__law_changed R__law_draw R__law_same R__law_wide C_BadDimensions C_CubeError C_Space) 7 1) := by
  obtain ⟨f, fd, F, hm⟩ := T.f_law
  exact def_z F hm sc_law rfl rfl (F.binds fun _ _ _ _ _ _ us hl => match us, hl with | [_], _ => rfl) fun cdv A outer s H E hr =>
    (pss_cons (ps_set (i := 1) sc_law.nd rfl (Or.inl rfl) (pe_callTy call_list_of (by rfl) T.n_list (by decide +kernel) (pa_cons (pe_callZ g__law_wide hr (by omega) (by rfl) (pa_cons (pv 0) (pa_cons pe_int (pa_cons pe_int pa_nil)))) pa_nil)))
      (pss_cons (ps_set (i := 2) sc_law.nd rfl (Or.inl rfl) (pe_callZ g__law_box hr (by omega) (by rfl) (pa_cons (pv 0) (pa_cons pe_int pa_nil))))
      (pss_cons (ps_for PassesOwn.never rfl (pi_range1 (by rfl) T.n_range (pa_cons (pe_callZ g__law_draw hr (by omega) (by rfl) (pa_cons (pv 2) (pa_cons pe_int pa_nil))) pa_nil)) (pg_name (i := 3) sc_law.nd rfl (Or.inl rfl)) (pss_one (ps_if (pt_cmpR op_gt (pe_callB call_len (by rfl) T.n_len (by decide +kernel) (pa_cons (pv 1) pa_nil)) pe_int (nomark _)) (pss_one (ps_set (i := 1) sc_law.nd rfl (Or.inl rfl) (pe_callZ g__law_changed hr (by omega) (by rfl) (pa_cons (pv 2) (pa_cons (pv 1) pa_nil))))) pss_nil)))
      (pss_cons (ps_set (i := 4) sc_law.nd rfl (Or.inl rfl) (pe_callTy call_tuple_of (by rfl) T.n_tuple (by decide +kernel) (pa_cons (pv 1) pa_nil)))
      (pss_cons (L2N.ps_try_as (i := 6) (tb := fun W => K03.y_law_1 K Rh__law_are_dimensions Rx_Space RX_Space R__law_are_dimensions R__law_box R__law_changed R__law_draw R__law_same R__law_wide C_BadDimensions C_CubeError C_Space W) (ts := fun a cls d => K03.u_law_1 K Rh__law_are_dimensions Rx_Space RX_Space R__law_are_dimensions R__law_box R__law_changed R__law_draw R__law_same R__law_wide C_BadDimensions C_CubeError C_Space a cls d) (Wout := fun _ _ _ _ => False) rfl rfl sc_law.nd rfl rfl ⟨by rfl, by decide, Or.inl T.at_CubeError⟩ takesN0 (fun W pn xe tk _ =>
      (pss_one (ps_set (i := 5) sc_law.nd rfl (Or.inl rfl) (pe_makeX gx_Space hr (by omega) tk (by rfl) (pa_cons (pv 4) pa_nil))))) (fun a oe cls d pn hz hf =>
      (pss_one (ps_ret (pe_and (pe_callB (call_isG T.xi_BadDimensions hz hf) (by rfl) T.n_isinstance (by decide +kernel) (pa_cons (pv 6) (pa_cons (pe_glob (by rfl) T.at_BadDimensions rfl) pa_nil))) (pe_and (pe_callB (call_isG T.xi_BadDimensions hz hf) (by rfl) T.n_isinstance (by decide +kernel) (pa_cons (pv 6) (pa_cons (pe_bltn (by rfl) T.n_ValueError (by decide +kernel) rfl) pa_nil))) (pe_one (pe_not (pe_callZH gh__law_are_dimensions (roomH_suite hr) (by omega) (hotc_of hz hf) (by rfl) (pa_cons (pv 4) pa_nil))))))))))
      (pss_one (ps_ret (pe_and (pe_callZ g__law_are_dimensions hr (by omega) (by rfl) (pa_cons (pv 4) pa_nil)) (pe_one (pe_callZ g__law_same hr (by omega) (by rfl) (pa_cons (pe_fld (pv 5) rfl) (pa_cons (pv 4) pa_nil))))))))))))
end
theorem all_mk {l : PySem.W.OpenLaw} {w : World} {K : PySem.W.Frag} {h : Heap} {mg : Str → Option Value} {fa : Addr} (X : K.In h) (G : h.Ns mainGlobals mg) (hfa : mg "law" = some (.ref fa))
    {C_Space : Addr} (aC_Space : PySem.W.nsIn K mainGlobals "Space" = some (some (.ref C_Space))) (pg_Space : PySem.W.plainGet K C_Space Str.empty = true) (hd_Space : PySem.W.hasDictIn K C_Space = true) (po_Space : PySem.W.plainOver K C_Space = true) (sa_Space : PySem.W.findIn K (.ref C_Space) "__setattr__" = some (some (.builtin "object.__setattr__"))) (mk_Space : PySem.W.makesIn K C_Space = true) (kc_Space : PySem.W.keepIn K (.ref C_Space) = true)
    (na_Space_0 : PySem.W.findIn K (.ref C_Space) "dimensions" = some none)
    (na_Space_1 : PySem.W.findIn K (.ref C_Space) "_levels" = some none)
    (na_Space_2 : PySem.W.findIn K (.ref C_Space) "_leaves" = some none)
    (na_Space_3 : PySem.W.findIn K (.ref C_Space) "_parts" = some none)
    (na_Space_4 : PySem.W.findIn K (.ref C_Space) "_cells" = some none)
    (na_Space_5 : PySem.W.findIn K (.ref C_Space) "_numbers" = some none)
    (na_Space_6 : PySem.W.findIn K (.ref C_Space) "many" = some none)
    {C_BadDimensions : Addr} (aC_BadDimensions : PySem.W.nsIn K mainGlobals "BadDimensions" = some (some (.ref C_BadDimensions)))
    {C_CubeError : Addr} (aC_CubeError : PySem.W.nsIn K mainGlobals "CubeError" = some (some (.ref C_CubeError)))
    (xq_BadDimensions : PySem.W.excIn K C_BadDimensions [.type "ValueError", .type "Exception", .type "BaseException", .type "object"] "ValueError.__new__" = true) (xk_BadDimensions : PySem.W.keepIn K (.ref C_BadDimensions) = true) (xs_BadDimensions : PySem.W.subIn K (.ref C_BadDimensions) (.type "BaseException") = some true) (xt_BadDimensions : PySem.W.typeIn K (.ref C_BadDimensions) = some (.type "type"))
    (ig_BadDimensions : PySem.W.findIn K (.ref C_BadDimensions) "__getattribute__" = some (some (.builtin "BaseException.__getattribute__"))) (ik_BadDimensions : PySem.W.findIn K (.ref C_BadDimensions) "__getattr__" = some none) (id_BadDimensions : PySem.W.hasDictIn K C_BadDimensions = true) (ia_BadDimensions : PySem.W.findIn K (.ref C_BadDimensions) "__class__" = some (some (.builtin "object.__class__"))) (im_BadDimensions : PySem.W.mroIn K C_BadDimensions (.type "object") = some true)
    (in_ : PySem.W.specialIn K (.builtin "object.__class__") "__get__" = some (some (.builtin "getset_descriptor.__get__"))) (it_ : PySem.W.takesIn K (.builtin "object.__class__") = some true)
    (em_BadDimensions_CubeError : PySem.W.exmOne K (.ref C_BadDimensions) (.ref C_CubeError) = some true)
    (ki_BadDimensions_BadDimensions : PySem.W.kitOne K (.ref C_BadDimensions) (.ref C_BadDimensions) = some true)
    (ki_BadDimensions_ValueError : PySem.W.kitOne K (.ref C_BadDimensions) (.type "ValueError") = some true)
    {f0 : Addr} {od0 an0 : Option Addr} {sl0 : Array (Option Value)} {oc0 kV0 dc0 pm0 cd0 ct0 : Value}
    (a0 : PySem.W.nsIn K mainGlobals "is_word" = some (some (.ref f0))) (l0 : K.lookup f0 = some ⟨oc0, od0, .func (PySem.W.fnOf "is_word" "is_word" (defArgs s_is_word) (defBody s_is_word) (defScope s_is_word) .none kV0 dc0 pm0 an0 cd0 ct0), sl0⟩) (c0 : PySem.W.codeIn K cd0 "is_word" = true) (k0 : PySem.W.keepIn K (.ref f0) = true)
    {f1 : Addr} {od1 an1 : Option Addr} {sl1 : Array (Option Value)} {oc1 kV1 dc1 pm1 cd1 ct1 : Value}
    (a1 : PySem.W.nsIn K mainGlobals "words_of" = some (some (.ref f1))) (l1 : K.lookup f1 = some ⟨oc1, od1, .func (PySem.W.fnOf "words_of" "words_of" (defArgs s_words_of) (defBody s_words_of) (defScope s_words_of) .none kV1 dc1 pm1 an1 cd1 ct1), sl1⟩) (c1 : PySem.W.codeIn K cd1 "words_of" = true) (k1 : PySem.W.keepIn K (.ref f1) = true)
    {f2 : Addr} {od2 an2 : Option Addr} {sl2 : Array (Option Value)} {oc2 kV2 dc2 pm2 cd2 ct2 : Value}
    (a2 : PySem.W.nsIn K mainGlobals "start_of" = some (some (.ref f2))) (l2 : K.lookup f2 = some ⟨oc2, od2, .func (PySem.W.fnOf "start_of" "start_of" (defArgs s_start_of) (defBody s_start_of) (defScope s_start_of) .none kV2 dc2 pm2 an2 cd2 ct2), sl2⟩) (c2 : PySem.W.codeIn K cd2 "start_of" = true) (k2 : PySem.W.keepIn K (.ref f2) = true)
    {f3 : Addr} {od3 an3 : Option Addr} {sl3 : Array (Option Value)} {oc3 kV3 dc3 pm3 cd3 ct3 : Value}
    (a3 : PySem.W.nsIn K mainGlobals "choices" = some (some (.ref f3))) (l3 : K.lookup f3 = some ⟨oc3, od3, .func (PySem.W.fnOf "choices" "choices" (defArgs s_choices) (defBody s_choices) (defScope s_choices) .none kV3 dc3 pm3 an3 cd3 ct3), sl3⟩) (c3 : PySem.W.codeIn K cd3 "choices" = true) (k3 : PySem.W.keepIn K (.ref f3) = true)
    {f4 : Addr} {od4 an4 : Option Addr} {sl4 : Array (Option Value)} {oc4 kV4 dc4 pm4 cd4 ct4 : Value}
    (a4 : PySem.W.nsIn K mainGlobals "_is_leaf" = some (some (.ref f4))) (l4 : K.lookup f4 = some ⟨oc4, od4, .func (PySem.W.fnOf "_is_leaf" "_is_leaf" (defArgs s__is_leaf) (defBody s__is_leaf) (defScope s__is_leaf) .none kV4 dc4 pm4 an4 cd4 ct4), sl4⟩) (c4 : PySem.W.codeIn K cd4 "_is_leaf" = true) (k4 : PySem.W.keepIn K (.ref f4) = true)
    {f5 : Addr} {od5 an5 : Option Addr} {sl5 : Array (Option Value)} {oc5 kV5 dc5 pm5 cd5 ct5 : Value}
    (a5 : PySem.W.nsIn K mainGlobals "_is_dimension" = some (some (.ref f5))) (l5 : K.lookup f5 = some ⟨oc5, od5, .func (PySem.W.fnOf "_is_dimension" "_is_dimension" (defArgs s__is_dimension) (defBody s__is_dimension) (defScope s__is_dimension) .none kV5 dc5 pm5 an5 cd5 ct5), sl5⟩) (c5 : PySem.W.codeIn K cd5 "_is_dimension" = true) (k5 : PySem.W.keepIn K (.ref f5) = true)
    {f6 : Addr} {od6 an6 : Option Addr} {sl6 : Array (Option Value)} {oc6 kV6 dc6 pm6 cd6 ct6 : Value}
    (a6 : PySem.W.nsIn K mainGlobals "check_dimensions" = some (some (.ref f6))) (l6 : K.lookup f6 = some ⟨oc6, od6, .func (PySem.W.fnOf "check_dimensions" "check_dimensions" (defArgs s_check_dimensions) (defBody s_check_dimensions) (defScope s_check_dimensions) .none kV6 dc6 pm6 an6 cd6 ct6), sl6⟩) (c6 : PySem.W.codeIn K cd6 "check_dimensions" = true) (k6 : PySem.W.keepIn K (.ref f6) = true)
    {f7 : Addr} {od7 an7 : Option Addr} {sl7 : Array (Option Value)} {oc7 kV7 dc7 pm7 cd7 ct7 : Value}
    (a7 : PySem.W.nsIn K mainGlobals "_members_by_level" = some (some (.ref f7))) (l7 : K.lookup f7 = some ⟨oc7, od7, .func (PySem.W.fnOf "_members_by_level" "_members_by_level" (defArgs s__members_by_level) (defBody s__members_by_level) (defScope s__members_by_level) .none kV7 dc7 pm7 an7 cd7 ct7), sl7⟩) (c7 : PySem.W.codeIn K cd7 "_members_by_level" = true) (k7 : PySem.W.keepIn K (.ref f7) = true)
    {f8 : Addr} {od8 an8 : Option Addr} {sl8 : Array (Option Value)} {oc8 kV8 dc8 pm8 cd8 ct8 : Value}
    (a8 : PySem.W.nsIn K mainGlobals "_leaves_by_member" = some (some (.ref f8))) (l8 : K.lookup f8 = some ⟨oc8, od8, .func (PySem.W.fnOf "_leaves_by_member" "_leaves_by_member" (defArgs s__leaves_by_member) (defBody s__leaves_by_member) (defScope s__leaves_by_member) .none kV8 dc8 pm8 an8 cd8 ct8), sl8⟩) (c8 : PySem.W.codeIn K cd8 "_leaves_by_member" = true) (k8 : PySem.W.keepIn K (.ref f8) = true)
    {f9 : Addr} {od9 an9 : Option Addr} {sl9 : Array (Option Value)} {oc9 kV9 dc9 pm9 cd9 ct9 : Value}
    (a9 : PySem.W.findIn K (.ref C_Space) "__init__" = some (some (.ref f9))) (i9 : PySem.W.isFn K (.ref f9) = true) (l9 : K.lookup f9 = some ⟨oc9, od9, .func (PySem.W.fnOf "__init__" "Space.__init__" (defArgs s_Space___init__) (defBody s_Space___init__) (defScope s_Space___init__) .none kV9 dc9 pm9 an9 cd9 ct9), sl9⟩) (c9 : PySem.W.codeIn K cd9 "Space.__init__" = true) (k9 : PySem.W.keepIn K (.ref f9) = true)
    {f10 : Addr} {od10 an10 : Option Addr} {sl10 : Array (Option Value)} {oc10 kV10 dc10 pm10 cd10 ct10 : Value}
    (a10 : PySem.W.nsIn K mainGlobals "_law_cell" = some (some (.ref f10))) (l10 : K.lookup f10 = some ⟨oc10, od10, .func (PySem.W.fnOf "_law_cell" "_law_cell" (defArgs s__law_cell) (defBody s__law_cell) (defScope s__law_cell) .none kV10 dc10 pm10 an10 cd10 ct10), sl10⟩) (c10 : PySem.W.codeIn K cd10 "_law_cell" = true) (k10 : PySem.W.keepIn K (.ref f10) = true)
    {f11 : Addr} {od11 an11 : Option Addr} {sl11 : Array (Option Value)} {oc11 kV11 dc11 pm11 cd11 ct11 : Value}
    (a11 : PySem.W.nsIn K mainGlobals "_law_digits" = some (some (.ref f11))) (l11 : K.lookup f11 = some ⟨oc11, od11, .func (PySem.W.fnOf "_law_digits" "_law_digits" (defArgs s__law_digits) (defBody s__law_digits) (defScope s__law_digits) .none kV11 dc11 pm11 an11 cd11 ct11), sl11⟩) (c11 : PySem.W.codeIn K cd11 "_law_digits" = true) (k11 : PySem.W.keepIn K (.ref f11) = true)
    {f12 : Addr} {od12 an12 : Option Addr} {sl12 : Array (Option Value)} {oc12 kV12 dc12 pm12 cd12 ct12 : Value}
    (a12 : PySem.W.nsIn K mainGlobals "_law_box" = some (some (.ref f12))) (l12 : K.lookup f12 = some ⟨oc12, od12, .func (PySem.W.fnOf "_law_box" "_law_box" (defArgs s__law_box) (defBody s__law_box) (defScope s__law_box) .none kV12 dc12 pm12 an12 cd12 ct12), sl12⟩) (c12 : PySem.W.codeIn K cd12 "_law_box" = true) (k12 : PySem.W.keepIn K (.ref f12) = true)
    {f13 : Addr} {od13 an13 : Option Addr} {sl13 : Array (Option Value)} {oc13 kV13 dc13 pm13 cd13 ct13 : Value}
    (a13 : PySem.W.nsIn K mainGlobals "_law_draw" = some (some (.ref f13))) (l13 : K.lookup f13 = some ⟨oc13, od13, .func (PySem.W.fnOf "_law_draw" "_law_draw" (defArgs s__law_draw) (defBody s__law_draw) (defScope s__law_draw) .none kV13 dc13 pm13 an13 cd13 ct13), sl13⟩) (c13 : PySem.W.codeIn K cd13 "_law_draw" = true) (k13 : PySem.W.keepIn K (.ref f13) = true)
    {f14 : Addr} {od14 an14 : Option Addr} {sl14 : Array (Option Value)} {oc14 kV14 dc14 pm14 cd14 ct14 : Value}
    (a14 : PySem.W.nsIn K mainGlobals "_law_is_integer" = some (some (.ref f14))) (l14 : K.lookup f14 = some ⟨oc14, od14, .func (PySem.W.fnOf "_law_is_integer" "_law_is_integer" (defArgs s__law_is_integer) (defBody s__law_is_integer) (defScope s__law_is_integer) .none kV14 dc14 pm14 an14 cd14 ct14), sl14⟩) (c14 : PySem.W.codeIn K cd14 "_law_is_integer" = true) (k14 : PySem.W.keepIn K (.ref f14) = true)
    {f15 : Addr} {od15 an15 : Option Addr} {sl15 : Array (Option Value)} {oc15 kV15 dc15 pm15 cd15 ct15 : Value}
    (a15 : PySem.W.nsIn K mainGlobals "_law_same" = some (some (.ref f15))) (l15 : K.lookup f15 = some ⟨oc15, od15, .func (PySem.W.fnOf "_law_same" "_law_same" (defArgs s__law_same) (defBody s__law_same) (defScope s__law_same) .none kV15 dc15 pm15 an15 cd15 ct15), sl15⟩) (c15 : PySem.W.codeIn K cd15 "_law_same" = true) (k15 : PySem.W.keepIn K (.ref f15) = true)
    {f16 : Addr} {od16 an16 : Option Addr} {sl16 : Array (Option Value)} {oc16 kV16 dc16 pm16 cd16 ct16 : Value}
    (a16 : PySem.W.nsIn K mainGlobals "_law_is_word" = some (some (.ref f16))) (l16 : K.lookup f16 = some ⟨oc16, od16, .func (PySem.W.fnOf "_law_is_word" "_law_is_word" (defArgs s__law_is_word) (defBody s__law_is_word) (defScope s__law_is_word) .none kV16 dc16 pm16 an16 cd16 ct16), sl16⟩) (c16 : PySem.W.codeIn K cd16 "_law_is_word" = true) (k16 : PySem.W.keepIn K (.ref f16) = true)
    {f17 : Addr} {od17 an17 : Option Addr} {sl17 : Array (Option Value)} {oc17 kV17 dc17 pm17 cd17 ct17 : Value}
    (a17 : PySem.W.nsIn K mainGlobals "_law_a_text" = some (some (.ref f17))) (l17 : K.lookup f17 = some ⟨oc17, od17, .func (PySem.W.fnOf "_law_a_text" "_law_a_text" (defArgs s__law_a_text) (defBody s__law_a_text) (defScope s__law_a_text) .none kV17 dc17 pm17 an17 cd17 ct17), sl17⟩) (c17 : PySem.W.codeIn K cd17 "_law_a_text" = true) (k17 : PySem.W.keepIn K (.ref f17) = true)
    {f18 : Addr} {od18 an18 : Option Addr} {sl18 : Array (Option Value)} {oc18 kV18 dc18 pm18 cd18 ct18 : Value}
    (a18 : PySem.W.nsIn K mainGlobals "_law_word" = some (some (.ref f18))) (l18 : K.lookup f18 = some ⟨oc18, od18, .func (PySem.W.fnOf "_law_word" "_law_word" (defArgs s__law_word) (defBody s__law_word) (defScope s__law_word) .none kV18 dc18 pm18 an18 cd18 ct18), sl18⟩) (c18 : PySem.W.codeIn K cd18 "_law_word" = true) (k18 : PySem.W.keepIn K (.ref f18) = true)
    {f19 : Addr} {od19 an19 : Option Addr} {sl19 : Array (Option Value)} {oc19 kV19 dc19 pm19 cd19 ct19 : Value}
    (a19 : PySem.W.nsIn K mainGlobals "_law_leaves" = some (some (.ref f19))) (l19 : K.lookup f19 = some ⟨oc19, od19, .func (PySem.W.fnOf "_law_leaves" "_law_leaves" (defArgs s__law_leaves) (defBody s__law_leaves) (defScope s__law_leaves) .none kV19 dc19 pm19 an19 cd19 ct19), sl19⟩) (c19 : PySem.W.codeIn K cd19 "_law_leaves" = true) (k19 : PySem.W.keepIn K (.ref f19) = true)
    {f20 : Addr} {od20 an20 : Option Addr} {sl20 : Array (Option Value)} {oc20 kV20 dc20 pm20 cd20 ct20 : Value}
    (a20 : PySem.W.nsIn K mainGlobals "_law_plain_leaves" = some (some (.ref f20))) (l20 : K.lookup f20 = some ⟨oc20, od20, .func (PySem.W.fnOf "_law_plain_leaves" "_law_plain_leaves" (defArgs s__law_plain_leaves) (defBody s__law_plain_leaves) (defScope s__law_plain_leaves) .none kV20 dc20 pm20 an20 cd20 ct20), sl20⟩) (c20 : PySem.W.codeIn K cd20 "_law_plain_leaves" = true) (k20 : PySem.W.keepIn K (.ref f20) = true)
    {f21 : Addr} {od21 an21 : Option Addr} {sl21 : Array (Option Value)} {oc21 kV21 dc21 pm21 cd21 ct21 : Value}
    (a21 : PySem.W.nsIn K mainGlobals "_law_wide" = some (some (.ref f21))) (l21 : K.lookup f21 = some ⟨oc21, od21, .func (PySem.W.fnOf "_law_wide" "_law_wide" (defArgs s__law_wide) (defBody s__law_wide) (defScope s__law_wide) .none kV21 dc21 pm21 an21 cd21 ct21), sl21⟩) (c21 : PySem.W.codeIn K cd21 "_law_wide" = true) (k21 : PySem.W.keepIn K (.ref f21) = true)
    {f22 : Addr} {od22 an22 : Option Addr} {sl22 : Array (Option Value)} {oc22 kV22 dc22 pm22 cd22 ct22 : Value}
    (a22 : PySem.W.nsIn K mainGlobals "_law_leaf_rows" = some (some (.ref f22))) (l22 : K.lookup f22 = some ⟨oc22, od22, .func (PySem.W.fnOf "_law_leaf_rows" "_law_leaf_rows" (defArgs s__law_leaf_rows) (defBody s__law_leaf_rows) (defScope s__law_leaf_rows) .none kV22 dc22 pm22 an22 cd22 ct22), sl22⟩) (c22 : PySem.W.codeIn K cd22 "_law_leaf_rows" = true) (k22 : PySem.W.keepIn K (.ref f22) = true)
    {f23 : Addr} {od23 an23 : Option Addr} {sl23 : Array (Option Value)} {oc23 kV23 dc23 pm23 cd23 ct23 : Value}
    (a23 : PySem.W.nsIn K mainGlobals "_law_are_dimensions" = some (some (.ref f23))) (l23 : K.lookup f23 = some ⟨oc23, od23, .func (PySem.W.fnOf "_law_are_dimensions" "_law_are_dimensions" (defArgs s__law_are_dimensions) (defBody s__law_are_dimensions) (defScope s__law_are_dimensions) .none kV23 dc23 pm23 an23 cd23 ct23), sl23⟩) (c23 : PySem.W.codeIn K cd23 "_law_are_dimensions" = true) (k23 : PySem.W.keepIn K (.ref f23) = true)
    {f24 : Addr} {od24 an24 : Option Addr} {sl24 : Array (Option Value)} {oc24 kV24 dc24 pm24 cd24 ct24 : Value}
    (a24 : PySem.W.nsIn K mainGlobals "_law_changed_leaves" = some (some (.ref f24))) (l24 : K.lookup f24 = some ⟨oc24, od24, .func (PySem.W.fnOf "_law_changed_leaves" "_law_changed_leaves" (defArgs s__law_changed_leaves) (defBody s__law_changed_leaves) (defScope s__law_changed_leaves) .none kV24 dc24 pm24 an24 cd24 ct24), sl24⟩) (c24 : PySem.W.codeIn K cd24 "_law_changed_leaves" = true) (k24 : PySem.W.keepIn K (.ref f24) = true)
    {f25 : Addr} {od25 an25 : Option Addr} {sl25 : Array (Option Value)} {oc25 kV25 dc25 pm25 cd25 ct25 : Value}
    (a25 : PySem.W.nsIn K mainGlobals "_law_changed" = some (some (.ref f25))) (l25 : K.lookup f25 = some ⟨oc25, od25, .func (PySem.W.fnOf "_law_changed" "_law_changed" (defArgs s__law_changed) (defBody s__law_changed) (defScope s__law_changed) .none kV25 dc25 pm25 an25 cd25 ct25), sl25⟩) (c25 : PySem.W.codeIn K cd25 "_law_changed" = true) (k25 : PySem.W.keepIn K (.ref f25) = true)
    {f26 : Addr} {od26 an26 : Option Addr} {sl26 : Array (Option Value)} {oc26 kV26 dc26 pm26 cd26 ct26 : Value}
    (a26 : PySem.W.nsIn K mainGlobals "law" = some (some (.ref f26))) (l26 : K.lookup f26 = some ⟨oc26, od26, .func (PySem.W.fnOf "law" "law" (defArgs s_law) (defBody s_law) (defScope s_law) .none kV26 dc26 pm26 an26 cd26 ct26), sl26⟩) (c26 : PySem.W.codeIn K cd26 "law" = true) (k26 : PySem.W.keepIn K (.ref f26) = true)
    (n_ValueError : PySem.W.nsIn K mainGlobals "ValueError" = some none)
    (n_all : PySem.W.nsIn K mainGlobals "all" = some none)
    (n_bool : PySem.W.nsIn K mainGlobals "bool" = some none)
    (n_enumerate : PySem.W.nsIn K mainGlobals "enumerate" = some none)
    (n_int : PySem.W.nsIn K mainGlobals "int" = some none)
    (n_isinstance : PySem.W.nsIn K mainGlobals "isinstance" = some none)
    (n_len : PySem.W.nsIn K mainGlobals "len" = some none)
    (n_list : PySem.W.nsIn K mainGlobals "list" = some none)
    (n_min : PySem.W.nsIn K mainGlobals "min" = some none)
    (n_range : PySem.W.nsIn K mainGlobals "range" = some none)
    (n_set : PySem.W.nsIn K mainGlobals "set" = some none)
    (n_sorted : PySem.W.nsIn K mainGlobals "sorted" = some none)
    (n_str : PySem.W.nsIn K mainGlobals "str" = some none)
    (n_tuple : PySem.W.nsIn K mainGlobals "tuple" = some none)
    (n_zip : PySem.W.nsIn K mainGlobals "zip" = some none)
    {t_DEEPEST : Tok} (v_DEEPEST : PySem.W.nsIn K mainGlobals "DEEPEST" = some (some (.int 3 t_DEEPEST)))
    {t_FEWEST_LEAVES : Tok} (v_FEWEST_LEAVES : PySem.W.nsIn K mainGlobals "FEWEST_LEAVES" = some (some (.int 2 t_FEWEST_LEAVES)))
    {a_KEPT_WORDS : Addr} {t_KEPT_WORDS_0 t_KEPT_WORDS_1 t_KEPT_WORDS_2 t_KEPT_WORDS_3 n_KEPT_WORDS : Nat} {oc_KEPT_WORDS : Option Addr} {sl_KEPT_WORDS : Array (Option Value)} (v_KEPT_WORDS : PySem.W.nsIn K mainGlobals "KEPT_WORDS" = some (some (.ref a_KEPT_WORDS))) (u_KEPT_WORDS : K.lookup a_KEPT_WORDS = some ⟨.type "tuple", oc_KEPT_WORDS, .seq #[.str "sum" t_KEPT_WORDS_0, .str "where" t_KEPT_WORDS_1, .str "in" t_KEPT_WORDS_2, .str "and" t_KEPT_WORDS_3] n_KEPT_WORDS, sl_KEPT_WORDS⟩)
    {t_LETTERS : Tok} (v_LETTERS : PySem.W.nsIn K mainGlobals "LETTERS" = some (some (.str letS t_LETTERS)))
    {t_LONGEST_WORD : Tok} (v_LONGEST_WORD : PySem.W.nsIn K mainGlobals "LONGEST_WORD" = some (some (.int 8 t_LONGEST_WORD)))
    {t_MOST_CELLS : Tok} (v_MOST_CELLS : PySem.W.nsIn K mainGlobals "MOST_CELLS" = some (some (.int 48 t_MOST_CELLS)))
    {t_MOST_DIMENSIONS : Tok} (v_MOST_DIMENSIONS : PySem.W.nsIn K mainGlobals "MOST_DIMENSIONS" = some (some (.int 3 t_MOST_DIMENSIONS)))
    {t_MOST_LEAVES : Tok} (v_MOST_LEAVES : PySem.W.nsIn K mainGlobals "MOST_LEAVES" = some (some (.int 8 t_MOST_LEAVES)))
    : ∃ fd : FuncData, (∀ (s : Shared) (v : Value), BindsTo s fd ⟨[v], []⟩ [("script", v)]) ∧ ∀ base : Heap, K.In base → base.Ns mainGlobals mg → FnOk l.prog w K mg base CX0 7 fa fd ["script"] (SpLaw K) := by
  have e := hfa.symm.trans (PySem.W.mg_of X G a26)
  cases e
  have T : Top K mg (.int 3) (.int 2) (.ref a_KEPT_WORDS) (.str letS) (.int 8) (.int 48) (.int 3) (.int 8) C_Space C_BadDimensions C_CubeError := ⟨PySem.W.mg_none_of X G n_ValueError, PySem.W.mg_none_of X G n_all, PySem.W.mg_none_of X G n_bool, PySem.W.mg_none_of X G n_enumerate, PySem.W.mg_none_of X G n_int, PySem.W.mg_none_of X G n_isinstance, PySem.W.mg_none_of X G n_len, PySem.W.mg_none_of X G n_list, PySem.W.mg_none_of X G n_min, PySem.W.mg_none_of X G n_range, PySem.W.mg_none_of X G n_set, PySem.W.mg_none_of X G n_sorted, PySem.W.mg_none_of X G n_str, PySem.W.mg_none_of X G n_tuple, PySem.W.mg_none_of X G n_zip, ⟨_, PySem.W.mg_of X G v_DEEPEST, _, rfl⟩, ⟨_, PySem.W.mg_of X G v_FEWEST_LEAVES, _, rfl⟩, ⟨_, PySem.W.mg_of X G v_KEPT_WORDS, rfl⟩, ⟨_, PySem.W.mg_of X G v_LETTERS, _, rfl⟩, ⟨_, PySem.W.mg_of X G v_LONGEST_WORD, _, rfl⟩, ⟨_, PySem.W.mg_of X G v_MOST_CELLS, _, rfl⟩, ⟨_, PySem.W.mg_of X G v_MOST_DIMENSIONS, _, rfl⟩, ⟨_, PySem.W.mg_of X G v_MOST_LEAVES, _, rfl⟩, ⟨pg_Space, hd_Space, po_Space, sa_Space⟩, PySem.W.mg_of X G aC_Space, na_space na_Space_0 na_Space_1 na_Space_2 na_Space_3 na_Space_4 na_Space_5 na_Space_6, PySem.W.mg_of X G aC_BadDimensions, PySem.W.mg_of X G aC_CubeError, ⟨xq_BadDimensions, xk_BadDimensions, xs_BadDimensions, xt_BadDimensions⟩, ⟨ig_BadDimensions, ik_BadDimensions, xs_BadDimensions, id_BadDimensions, ia_BadDimensions, in_, it_, im_BadDimensions⟩, ⟨_, _, fun_mk (st := s_is_word) l0 c0 k0, PySem.W.mg_of X G a0⟩, ⟨_, _, fun_mk (st := s_words_of) l1 c1 k1, PySem.W.mg_of X G a1⟩, ⟨_, _, fun_mk (st := s_start_of) l2 c2 k2, PySem.W.mg_of X G a2⟩, ⟨_, _, fun_mk (st := s_choices) l3 c3 k3, PySem.W.mg_of X G a3⟩, ⟨_, _, fun_mk (st := s__is_leaf) l4 c4 k4, PySem.W.mg_of X G a4⟩, ⟨_, _, fun_mk (st := s__is_dimension) l5 c5 k5, PySem.W.mg_of X G a5⟩, ⟨_, _, fun_mk (st := s_check_dimensions) l6 c6 k6, PySem.W.mg_of X G a6⟩, ⟨_, _, fun_mk (st := s__members_by_level) l7 c7 k7, PySem.W.mg_of X G a7⟩, ⟨_, _, fun_mk (st := s__leaves_by_member) l8 c8 k8, PySem.W.mg_of X G a8⟩, ⟨_, _, fun_mk (st := s_Space___init__) l9 c9 k9, ⟨mk_Space, a9, i9, kc_Space⟩⟩, ⟨_, _, fun_mk (st := s__law_cell) l10 c10 k10, PySem.W.mg_of X G a10⟩, ⟨_, _, fun_mk (st := s__law_digits) l11 c11 k11, PySem.W.mg_of X G a11⟩, ⟨_, _, fun_mk (st := s__law_box) l12 c12 k12, PySem.W.mg_of X G a12⟩, ⟨_, _, fun_mk (st := s__law_draw) l13 c13 k13, PySem.W.mg_of X G a13⟩, ⟨_, _, fun_mk (st := s__law_is_integer) l14 c14 k14, PySem.W.mg_of X G a14⟩, ⟨_, _, fun_mk (st := s__law_same) l15 c15 k15, PySem.W.mg_of X G a15⟩, ⟨_, _, fun_mk (st := s__law_is_word) l16 c16 k16, PySem.W.mg_of X G a16⟩, ⟨_, _, fun_mk (st := s__law_a_text) l17 c17 k17, PySem.W.mg_of X G a17⟩, ⟨_, _, fun_mk (st := s__law_word) l18 c18 k18, PySem.W.mg_of X G a18⟩, ⟨_, _, fun_mk (st := s__law_leaves) l19 c19 k19, PySem.W.mg_of X G a19⟩, ⟨_, _, fun_mk (st := s__law_plain_leaves) l20 c20 k20, PySem.W.mg_of X G a20⟩, ⟨_, _, fun_mk (st := s__law_wide) l21 c21 k21, PySem.W.mg_of X G a21⟩, ⟨_, _, fun_mk (st := s__law_leaf_rows) l22 c22 k22, PySem.W.mg_of X G a22⟩, ⟨_, _, fun_mk (st := s__law_are_dimensions) l23 c23 k23, PySem.W.mg_of X G a23⟩, ⟨_, _, fun_mk (st := s__law_changed_leaves) l24 c24 k24, PySem.W.mg_of X G a24⟩, ⟨_, _, fun_mk (st := s__law_changed) l25 c25 k25, PySem.W.mg_of X G a25⟩, ⟨_, _, fun_mk (st := s_law) l26 c26 k26, PySem.W.mg_of X G a26⟩⟩
  have d_DEEPEST : ∀ H, Dz K H (.int 3) (.int 3) := fun _ => .int _
  have d_FEWEST_LEAVES : ∀ H, Dz K H (.int 2) (.int 2) := fun _ => .int _
  have d_KEPT_WORDS : ∀ H, DzR K H (.ref a_KEPT_WORDS) (.tup (keptS.map .str)) := dz_kept u_KEPT_WORDS rfl rfl (by show 4 ≤ sizeLine; decide) (xs := [.str "sum", .str "where", .str "in", .str "and"]) (.cons ⟨_, rfl⟩ (.cons ⟨_, rfl⟩ (.cons ⟨_, rfl⟩ (.cons ⟨_, rfl⟩ .nil)))) (fun _ => (.cons (.str _) (.cons (.str _) (.cons (.str _) (.cons (.str _) .nil)))))
  have d_LETTERS : ∀ H, Dz K H (.str letS) (.str letS) := fun _ => .str _
  have d_LONGEST_WORD : ∀ H, Dz K H (.int 8) (.int 8) := fun _ => .int _
  have d_MOST_CELLS : ∀ H, Dz K H (.int 48) (.int 48) := fun _ => .int _
  have d_MOST_DIMENSIONS : ∀ H, Dz K H (.int 3) (.int 3) := fun _ => .int _
  have d_MOST_LEAVES : ∀ H, Dz K H (.int 8) (.int 8) := fun _ => .int _
  refine ⟨PySem.W.fnOf "law" "law" (defArgs s_law) (defBody s_law) (defScope s_law) .none kV26 dc26 pm26 an26 cd26 ct26, fun s v => .of_eq rfl, fun base _ _ => ?_⟩
  have fin : ∀ {R : Rel}, (∀ ns : List Int, R [.fr (.lst (ns.map .int))] (.fr (.bl true)) [.fr (.lst (ns.map .int))]) → Zdef l.prog w K mg base 7 "law" ["script"] R → FnOk l.prog w K mg base CX0 7 fa (PySem.W.fnOf "law" "law" (defArgs s_law) (defBody s_law) (defScope s_law) .none kV26 dc26 pm26 an26 cd26 ct26) ["script"] (SpLaw K) := fun hR Z => law_fd Z hfa l26 (law_imp hR)
  have gis_word := ok_is_word (base := base) (P := l.prog) (w := w) T 
  have gwords_of := ok_words_of (base := base) (P := l.prog) (w := w) T 
  have gstart_of := ok_start_of (base := base) (P := l.prog) (w := w) T gwords_of
  have gchoices := ok_choices (base := base) (P := l.prog) (w := w) T 
  have g_is_leaf := ok__is_leaf (base := base) (P := l.prog) (w := w) T gis_word gwords_of
  have g_is_dimension := ok__is_dimension (base := base) (P := l.prog) (w := w) T g_is_leaf gis_word gwords_of
  have gxcheck_dimensions := okx_check_dimensions (base := base) (P := l.prog) (w := w) T g_is_dimension
  have g_members_by_level := ok__members_by_level (base := base) (P := l.prog) (w := w) T gstart_of gwords_of
  have g_leaves_by_member := ok__leaves_by_member (base := base) (P := l.prog) (w := w) T gstart_of gwords_of
  have gxSpace := okx_Space (base := base) (P := l.prog) (w := w) T gxcheck_dimensions g_leaves_by_member g_members_by_level gchoices
  have g_law_cell := ok__law_cell (base := base) (P := l.prog) (w := w) T 
  have g_law_digits := ok__law_digits (base := base) (P := l.prog) (w := w) T 
  have g_law_box := ok__law_box (base := base) (P := l.prog) (w := w) T g_law_cell g_law_digits
  have g_law_draw := ok__law_draw (base := base) (P := l.prog) (w := w) T 
  have g_law_is_integer := ok__law_is_integer (base := base) (P := l.prog) (w := w) T 
  have g_law_same := (ok__law_same (lv := 3) (base := base) (P := l.prog) (w := w) T g_law_is_integer (ok__law_same (lv := 2) (base := base) (P := l.prog) (w := w) T g_law_is_integer (ok__law_same (lv := 1) (base := base) (P := l.prog) (w := w) T g_law_is_integer (ok__law_same (lv := 0) (base := base) (P := l.prog) (w := w) T g_law_is_integer (no__law_same T 1)))))
  have g_law_is_word := ok__law_is_word (base := base) (P := l.prog) (w := w) T 
  have gh_law_is_word := okh__law_is_word (base := base) (P := l.prog) (w := w) T 
  have g_law_a_text := ok__law_a_text (base := base) (P := l.prog) (w := w) T g_law_draw
  have g_law_word := ok__law_word (base := base) (P := l.prog) (w := w) T g_law_draw
  have g_law_leaves := ok__law_leaves (base := base) (P := l.prog) (w := w) T g_law_draw g_law_word
  have g_law_plain_leaves := ok__law_plain_leaves (base := base) (P := l.prog) (w := w) T 
  have g_law_wide := ok__law_wide (base := base) (P := l.prog) (w := w) T g_law_box g_law_draw g_law_leaves g_law_plain_leaves g_law_word
  have g_law_leaf_rows := ok__law_leaf_rows (base := base) (P := l.prog) (w := w) T g_law_is_word
  have gh_law_leaf_rows := okh__law_leaf_rows (base := base) (P := l.prog) (w := w) T gh_law_is_word
  have g_law_are_dimensions := ok__law_are_dimensions (base := base) (P := l.prog) (w := w) T g_law_is_word g_law_leaf_rows
  have gh_law_are_dimensions := okh__law_are_dimensions (base := base) (P := l.prog) (w := w) T gh_law_is_word gh_law_leaf_rows
  have g_law_changed_leaves := ok__law_changed_leaves (base := base) (P := l.prog) (w := w) T g_law_a_text g_law_draw g_law_word
  have g_law_changed := ok__law_changed (base := base) (P := l.prog) (w := w) T g_law_a_text g_law_changed_leaves g_law_draw g_law_word
  have z := ok_law (base := base) (P := l.prog) (w := w) T gh_law_are_dimensions gxSpace g_law_are_dimensions g_law_box g_law_changed g_law_draw g_law_same g_law_wide
  refine fin (fun ns => ?_) z
  have na := T.na_Space
  have c := T.cls_Space
  have sw := sem_is_word (K := K) d_KEPT_WORDS d_LETTERS d_LONGEST_WORD
  have sst := sem_start_of (K := K) (sem_words_of (K := K))
  have swo := sem_words_of (K := K)
  have sd := sem_draw (K := K)
  have slw := rel_word (K := K) sd
  have sbox := sem_box (K := K) (sem_cell (K := K)) (sem_digits (K := K))
  have txt := K03.txt_of (sem_a_text (K := K) sd)
  have wdl := K03.wd_of (sem_law_is_word (K := K))
  have wd := K03.wd_of sw
  have wo := K03.wo_of swo
  exact K03.sem_law (rel_wide sbox sd (rel_leaves (K := K) sd slw) rel_plain slw) sbox sd (K03.rel_ch (K := K) txt (K03.rel_chl (K := K) txt sd slw) sd slw)
    (K03.rel_spX (K := K) c na (sem_leaves sst sem_words_of) (sem_members sst sem_words_of) sem_choices (K03.rel_chkX (K := K) (CB := C_BadDimensions) (K03.rel_isd (K := K) (K03.rel_leaf (K := K) wd wo) wd wo)))
    (K03.rel_ad (K := K) wdl (K03.rel_lr (K := K) wdl)) (K03.rel_had (K := K) wdl (K03.rel_hlr (K := K) wdl))
    (sem_same (n := 3) sem_is_integer (sem_same (n := 2) sem_is_integer (sem_same (n := 1) sem_is_integer (sem_same (n := 0) sem_is_integer (fun cs h => by obtain ⟨d, _, h⟩ := h; cases h))))) c na em_BadDimensions_CubeError ki_BadDimensions_BadDimensions ki_BadDimensions_ValueError ns
end Z
open PySem PySem.W PyProof.Rows
set_option maxHeartbeats 0 in
theorem PySem.Challenge.cw_cubesums_k03_dimensions_refused_holds : PySem.Challenge.rw_cubesums_k03_dimensions_refused.Holds := by
  w_on; o_law; k_head; (case hw => w_witness2)
  k_fill
  refine L2.walk_of (l := PySem.Challenge.rw_cubesums_k03_dimensions_refused) (n := 63) (k := 7) (x := "script") (CX := fun _ => L2.CX0) (sp := fun w => Z.SpLaw _) rfl (by decide) rfl ⟨rfl, by decide, by decide⟩ (fun w h Y => PySem.W.kIn_of Y) ?F (fun _ _ a ns hl _ hS => ⟨a, ns, rfl, hS, fun _ => rfl⟩) (fun _ _ _ _ _ h => h)
  case F =>
    intro w mg fa h KX G hmg
    refine' Z.all_mk KX G hmg ?aC_Space ?pg_Space ?hd_Space ?po_Space ?sa_Space ?mk_Space ?kc_Space ?na_Space_0 ?na_Space_1 ?na_Space_2 ?na_Space_3 ?na_Space_4 ?na_Space_5 ?na_Space_6 ?aC_BadDimensions ?aC_CubeError ?xq_BadDimensions ?xk_BadDimensions ?xs_BadDimensions ?xt_BadDimensions ?ig_BadDimensions ?ik_BadDimensions ?id_BadDimensions ?ia_BadDimensions ?im_BadDimensions ?in_ ?it_ ?em_BadDimensions_CubeError ?ki_BadDimensions_BadDimensions ?ki_BadDimensions_ValueError ?a0 ?l0 ?c0 ?k0 ?a1 ?l1 ?c1 ?k1 ?a2 ?l2 ?c2 ?k2 ?a3 ?l3 ?c3 ?k3 ?a4 ?l4 ?c4 ?k4 ?a5 ?l5 ?c5 ?k5 ?a6 ?l6 ?c6 ?k6 ?a7 ?l7 ?c7 ?k7 ?a8 ?l8 ?c8 ?k8 ?a9 ?i9 ?l9 ?c9 ?k9 ?a10 ?l10 ?c10 ?k10 ?a11 ?l11 ?c11 ?k11 ?a12 ?l12 ?c12 ?k12 ?a13 ?l13 ?c13 ?k13 ?a14 ?l14 ?c14 ?k14 ?a15 ?l15 ?c15 ?k15 ?a16 ?l16 ?c16 ?k16 ?a17 ?l17 ?c17 ?k17 ?a18 ?l18 ?c18 ?k18 ?a19 ?l19 ?c19 ?k19 ?a20 ?l20 ?c20 ?k20 ?a21 ?l21 ?c21 ?k21 ?a22 ?l22 ?c22 ?k22 ?a23 ?l23 ?c23 ?k23 ?a24 ?l24 ?c24 ?k24 ?a25 ?l25 ?c25 ?k25 ?a26 ?l26 ?c26 ?k26 ?n_ValueError ?n_all ?n_bool ?n_enumerate ?n_int ?n_isinstance ?n_len ?n_list ?n_min ?n_range ?n_set ?n_sorted ?n_str ?n_tuple ?n_zip ?v_DEEPEST ?v_FEWEST_LEAVES ?v_KEPT_WORDS ?u_KEPT_WORDS ?v_LETTERS ?v_LONGEST_WORD ?v_MOST_CELLS ?v_MOST_DIMENSIONS ?v_MOST_LEAVES
    (case aC_Space => k_is)
    (case pg_Space => k_is)
    (case hd_Space => k_is)
    (case po_Space => k_is)
    (case sa_Space => k_is)
    (case mk_Space => k_is)
    (case kc_Space => k_is)
    (case na_Space_0 => k_is)
    (case na_Space_1 => k_is)
    (case na_Space_2 => k_is)
    (case na_Space_3 => k_is)
    (case na_Space_4 => k_is)
    (case na_Space_5 => k_is)
    (case na_Space_6 => k_is)
    (case aC_BadDimensions => k_is)
    (case aC_CubeError => k_is)
    (case xq_BadDimensions => k_exc)
    (case xk_BadDimensions => k_is)
    (case xs_BadDimensions => k_is)
    (case xt_BadDimensions => k_is)
    (case ig_BadDimensions => k_is)
    (case ik_BadDimensions => k_is)
    (case id_BadDimensions => k_is)
    (case ia_BadDimensions => k_is)
    (case im_BadDimensions => k_is)
    (case in_ => k_is)
    (case it_ => k_is)
    (case em_BadDimensions_CubeError => first | rfl | k_is)
    (case ki_BadDimensions_BadDimensions => first | rfl | k_is)
    (case ki_BadDimensions_ValueError => first | rfl | k_is)
    (case a0 => k_is)
    (case l0 => k_is)
    (case c0 => k_is)
    (case k0 => k_is)
    (case a1 => k_is)
    (case l1 => k_is)
    (case c1 => k_is)
    (case k1 => k_is)
    (case a2 => k_is)
    (case l2 => k_is)
    (case c2 => k_is)
    (case k2 => k_is)
    (case a3 => k_is)
    (case l3 => k_is)
    (case c3 => k_is)
    (case k3 => k_is)
    (case a4 => k_is)
    (case l4 => k_is)
    (case c4 => k_is)
    (case k4 => k_is)
    (case a5 => k_is)
    (case l5 => k_is)
    (case c5 => k_is)
    (case k5 => k_is)
    (case a6 => k_is)
    (case l6 => k_is)
    (case c6 => k_is)
    (case k6 => k_is)
    (case a7 => k_is)
    (case l7 => k_is)
    (case c7 => k_is)
    (case k7 => k_is)
    (case a8 => k_is)
    (case l8 => k_is)
    (case c8 => k_is)
    (case k8 => k_is)
    (case a9 => k_is)
    (case i9 => k_is)
    (case l9 => k_is)
    (case c9 => k_is)
    (case k9 => k_is)
    (case a10 => k_is)
    (case l10 => k_is)
    (case c10 => k_is)
    (case k10 => k_is)
    (case a11 => k_is)
    (case l11 => k_is)
    (case c11 => k_is)
    (case k11 => k_is)
    (case a12 => k_is)
    (case l12 => k_is)
    (case c12 => k_is)
    (case k12 => k_is)
    (case a13 => k_is)
    (case l13 => k_is)
    (case c13 => k_is)
    (case k13 => k_is)
    (case a14 => k_is)
    (case l14 => k_is)
    (case c14 => k_is)
    (case k14 => k_is)
    (case a15 => k_is)
    (case l15 => k_is)
    (case c15 => k_is)
    (case k15 => k_is)
    (case a16 => k_is)
    (case l16 => k_is)
    (case c16 => k_is)
    (case k16 => k_is)
    (case a17 => k_is)
    (case l17 => k_is)
    (case c17 => k_is)
    (case k17 => k_is)
    (case a18 => k_is)
    (case l18 => k_is)
    (case c18 => k_is)
    (case k18 => k_is)
    (case a19 => k_is)
    (case l19 => k_is)
    (case c19 => k_is)
    (case k19 => k_is)
    (case a20 => k_is)
    (case l20 => k_is)
    (case c20 => k_is)
    (case k20 => k_is)
    (case a21 => k_is)
    (case l21 => k_is)
    (case c21 => k_is)
    (case k21 => k_is)
    (case a22 => k_is)
    (case l22 => k_is)
    (case c22 => k_is)
    (case k22 => k_is)
    (case a23 => k_is)
    (case l23 => k_is)
    (case c23 => k_is)
    (case k23 => k_is)
    (case a24 => k_is)
    (case l24 => k_is)
    (case c24 => k_is)
    (case k24 => k_is)
    (case a25 => k_is)
    (case l25 => k_is)
    (case c25 => k_is)
    (case k25 => k_is)
    (case a26 => k_is)
    (case l26 => k_is)
    (case c26 => k_is)
    (case k26 => k_is)
    (case n_ValueError => k_is)
    (case n_all => k_is)
    (case n_bool => k_is)
    (case n_enumerate => k_is)
    (case n_int => k_is)
    (case n_isinstance => k_is)
    (case n_len => k_is)
    (case n_list => k_is)
    (case n_min => k_is)
    (case n_range => k_is)
    (case n_set => k_is)
    (case n_sorted => k_is)
    (case n_str => k_is)
    (case n_tuple => k_is)
    (case n_zip => k_is)
    (case v_DEEPEST => k_is)
    (case v_FEWEST_LEAVES => k_is)
    (case v_KEPT_WORDS => k_is)
    (case u_KEPT_WORDS => k_is)
    (case v_LETTERS => k_is)
    (case v_LONGEST_WORD => k_is)
    (case v_MOST_CELLS => k_is)
    (case v_MOST_DIMENSIONS => k_is)
    (case v_MOST_LEAVES => k_is)

