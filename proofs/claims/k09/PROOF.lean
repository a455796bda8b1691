import PyProof.Rows.All
import Wide.All
import OpenK.AllK
import Wide.FinOn
import HandS.ForMost
import HandS.Evl
import HandS.IsInst
import KE.GoesEnum
import PyProof.EnumMake
import KE.KDictSum
import HandS.Conv
import HandS.ExcOwn
import HandS.ExcValue
import HandS.Zip
import HandS.Star
import HandS.Text
import HandS.DictComp
import HandS.Strs
import PyProof.Rows.SetFrom
import HandS.SetKeys
import HandS.Rev
import HandS.Wide
import HandS.Gcd
import HandS.FStr
import PyProof.Rows.StrMeet
import HandS.Deep
import HandS.ExcCtx
import HandS.ExcIs
import HandS.HotCalls
import HandS.TupAny
import KE.SortData
import HandS.ExcInit
import HandS.ExcField
import KE.KExcIs
import HandS.StrMore
import HandS.TryOnly
import PyProof.StrLaws
import PyProof.StrLawsAffix
import KE.GoesEnumKw
import HandS.Replace
import PyProof.StrReplace2
import PyProof.ToksMono
import PySem.Challenge.RW_cubesums_k09_expressions_read
set_option Elab.async false
set_option linter.all false
set_option maxRecDepth 100000
set_option maxHeartbeats 2000000
/-! ZBase: values by what they say. A frozen heap G within the heap H, cells of slots (frozen data, or a list that the frame alone changes), what an expression, a test, a row of arguments, a statement comes to, told over cells alone. -/
namespace Z
open PySem L2
open Evl (Ex Ex.refl Ex.trans Ex.new ex_rd ex_l ex_t sq_of st_of fresh_back)

inductive D where
  | non
  | bl (b : Bool)
  | int (i : Int)
  | str (x : Str)
  | lst (l : List D)
  | tup (l : List D)
  | dK (l : List (Key × D))
  | dT (l : List (List Key × D))
  | ins (C : Addr) (l : List (Str × D))
  | rng (lo hi : Int)
  | tupf (l : List D)

/-- a tuple of tuples -/
def Heads (ds : List D) : Prop := ∃ es r, ds = .tup es :: r
/-- the tuple (0, 1) of the module's own -/
def KPair (K : PySem.W.Frag) (a : Addr) : Prop := ∃ (o : Obj) (its : Array Value) (n : Nat), K.lookup a = some o ∧ o.cls = .type "tuple" ∧ o.data = .seq its n ∧ its.size ≤ sizeLine ∧ Vals [.int 0, .int 1] its.toList
section
variable (K : PySem.W.Frag)
mutual
inductive Dz (H : Hp) : V → D → Prop
  | non : Dz H .non .non
  | bl (b : Bool) : Dz H (.bl b) (.bl b)
  | int (i : Int) : Dz H (.int i) (.int i)
  | str (x : Str) : Dz H (.str x) (.str x)
  | lst {a : Addr} {xs : List V} {ds : List D} : SqL K H a xs → Dzs H xs ds → Dz H (.ref a) (.lst ds)
  | tup {a : Addr} {xs : List V} {ds : List D} : H a = some (.tup xs) → Dzs H xs ds → Dz H (.ref a) (.tup ds)
  | zt {a : Addr} : KPair K a → Dz H (.ref a) (.tup [.int 0, .int 1])
  | dK {a : Addr} {xs : List (Key × V)} {ds : List (Key × D)} : H a = some (.dK xs) → DzP H xs ds → Dz H (.ref a) (.dK ds)
  | dT {a : Addr} {xs : List (List Key × V)} {ds : List (List Key × D)} : H a = some (.dT xs) → DzT H xs ds → Dz H (.ref a) (.dT ds)
  | ins {a C dx : Addr} {xs : List (Str × V)} {ds : List (Str × D)} : H a = some (.ins C dx xs) → DzF H xs ds → Dz H (.ref a) (.ins C ds)
  | rng {a : Addr} {lo hi : Int} : H a = some (.rng lo hi) → Dz H (.ref a) (.rng lo hi)
  | ft {a : Addr} {o : Obj} {xs : List V} {ds : List D} : H a = some (.frz o (.tup xs)) → Heads ds → Dzs H xs ds → Dz H (.ref a) (.tup ds)
  | tupf {a : Addr} {o : Obj} {xs : List V} {ds : List D} : H a = some (.frz o (.tup xs)) → o.cls = .type "tuple" → o.dict = none → Heads ds → Dzs H xs ds → Dz H (.ref a) (.tupf ds)
inductive Dzs (H : Hp) : List V → List D → Prop
  | nil : Dzs H [] []
  | cons {v : V} {d : D} {xs : List V} {ds : List D} : Dz H v d → Dzs H xs ds → Dzs H (v :: xs) (d :: ds)
inductive DzP (H : Hp) : List (Key × V) → List (Key × D) → Prop
  | nil : DzP H [] []
  | cons {k : Key} {v : V} {d : D} {xs : List (Key × V)} {ds : List (Key × D)} : Dz H v d → DzP H xs ds → DzP H ((k, v) :: xs) ((k, d) :: ds)
inductive DzT (H : Hp) : List (List Key × V) → List (List Key × D) → Prop
  | nil : DzT H [] []
  | cons {k : List Key} {v : V} {d : D} {xs : List (List Key × V)} {ds : List (List Key × D)} : Dz H v d → DzT H xs ds → DzT H ((k, v) :: xs) ((k, d) :: ds)
inductive DzF (H : Hp) : List (Str × V) → List (Str × D) → Prop
  | nil : DzF H [] []
  | cons {k : Str} {v : V} {d : D} {xs : List (Str × V)} {ds : List (Str × D)} : Dz H v d → DzF H xs ds → DzF H ((k, v) :: xs) ((k, d) :: ds)
end
end

section
variable {K : PySem.W.Frag} {H H' : Hp}
mutual
theorem Dz.mono (e : Ex H H') : ∀ {v : V} {d : D}, Dz K H v d → Dz K H' v d
  | _, _, .non => .non
  | _, _, .bl b => .bl b
  | _, _, .int i => .int i
  | _, _, .str x => .str x
  | _, _, .lst h hs => .lst (ex_l e h) (Dzs.mono e hs)
  | _, _, .tup h hs => .tup (e _ _ h) (Dzs.mono e hs)
  | _, _, .zt h => .zt h
  | _, _, .dK h hs => .dK (e _ _ h) (DzP.mono e hs)
  | _, _, .dT h hs => .dT (e _ _ h) (DzT.mono e hs)
  | _, _, .ins h hs => .ins (e _ _ h) (DzF.mono e hs)
  | _, _, .rng h => .rng (e _ _ h)
  | _, _, .ft h hd hs => .ft (e _ _ h) hd (Dzs.mono e hs)
  | _, _, .tupf h hc hn hd hs => .tupf (e _ _ h) hc hn hd (Dzs.mono e hs)
theorem Dzs.mono (e : Ex H H') : ∀ {xs : List V} {ds : List D}, Dzs K H xs ds → Dzs K H' xs ds
  | _, _, .nil => .nil
  | _, _, .cons h hs => .cons (Dz.mono e h) (Dzs.mono e hs)
theorem DzP.mono (e : Ex H H') : ∀ {xs : List (Key × V)} {ds : List (Key × D)}, DzP K H xs ds → DzP K H' xs ds
  | _, _, .nil => .nil
  | _, _, .cons h hs => .cons (Dz.mono e h) (DzP.mono e hs)
theorem DzT.mono (e : Ex H H') : ∀ {xs : List (List Key × V)} {ds : List (List Key × D)}, DzT K H xs ds → DzT K H' xs ds
  | _, _, .nil => .nil
  | _, _, .cons h hs => .cons (Dz.mono e h) (DzT.mono e hs)
theorem DzF.mono (e : Ex H H') : ∀ {xs : List (Str × V)} {ds : List (Str × D)}, DzF K H xs ds → DzF K H' xs ds
  | _, _, .nil => .nil
  | _, _, .cons h hs => .cons (Dz.mono e h) (DzF.mono e hs)
end
theorem Dzs.len : ∀ {xs : List V} {ds : List D}, Dzs K H xs ds → xs.length = ds.length
  | _, _, .nil => rfl
  | _, _, .cons _ hs => congrArg (· + 1) hs.len
theorem Dzs.get : ∀ {xs : List V} {ds : List D} {i : Nat} {d : D}, Dzs K H xs ds → ds[i]? = some d → ∃ v, xs[i]? = some v ∧ Dz K H v d
  | _, _, 0, _, .cons h _, e => ⟨_, rfl, by have q := Option.some.inj e; subst q; exact h⟩
  | _, _, i + 1, d, .cons (xs := xs) (ds := ds) _ hs, e => Dzs.get (i := i) hs (by simpa using e)
theorem Dzs.app : ∀ {xs ys : List V} {ds es : List D}, Dzs K H xs ds → Dzs K H ys es → Dzs K H (xs ++ ys) (ds ++ es)
  | _, _, _, _, .nil, h => h
  | _, _, _, _, .cons h hs, k => .cons h (hs.app k)
theorem Dzs.snoc {xs : List V} {ds : List D} {v : V} {d : D} (h : Dzs K H xs ds) (k : Dz K H v d) : Dzs K H (xs ++ [v]) (ds ++ [d]) := h.app (.cons k .nil)
theorem Dzs.drop : ∀ {xs : List V} {ds : List D} (n : Nat), Dzs K H xs ds → Dzs K H (xs.drop n) (ds.drop n)
  | _, _, 0, h => h
  | _, _, n + 1, .nil => .nil
  | _, _, n + 1, .cons _ hs => hs.drop n
theorem Dzs.take : ∀ {xs : List V} {ds : List D} (n : Nat), Dzs K H xs ds → Dzs K H (xs.take n) (ds.take n)
  | _, _, 0, _ => .nil
  | _, _, n + 1, .nil => .nil
  | _, _, n + 1, .cons h hs => .cons h (hs.take n)
theorem Dzs.set : ∀ {xs : List V} {ds : List D} {v : V} {d : D} (i : Nat), Dzs K H xs ds → Dz K H v d → Dzs K H (xs.set i v) (ds.set i d)
  | _, _, _, _, _, .nil, _ => .nil
  | _, _, _, _, 0, .cons _ hs, k => .cons k hs
  | _, _, _, _, i + 1, .cons h hs, k => .cons h (hs.set i k)
theorem Dz.int_inv {v : V} {i : Int} : Dz K H v (.int i) → v = .int i | .int _ => rfl
theorem Dz.bl_inv {v : V} {b : Bool} : Dz K H v (.bl b) → v = .bl b | .bl _ => rfl
theorem Dz.str_inv {v : V} {x : Str} : Dz K H v (.str x) → v = .str x | .str _ => rfl
theorem Dz.non_inv {v : V} : Dz K H v .non → v = .non | .non => rfl
theorem Dz.lst_inv {v : V} {ds : List D} : Dz K H v (.lst ds) → ∃ a xs, v = .ref a ∧ SqL K H a xs ∧ Dzs K H xs ds | .lst h hs => ⟨_, _, rfl, h, hs⟩
theorem Dz.ins_inv {v : V} {C : Addr} {ds : List (Str × D)} : Dz K H v (.ins C ds) → ∃ a dx xs, v = .ref a ∧ H a = some (.ins C dx xs) ∧ DzF K H xs ds | .ins h hs => ⟨_, _, _, rfl, h, hs⟩
theorem Dz.tup_inv {v : V} {ds : List D} (h : Dz K H v (.tup ds)) : ∃ a xs, v = .ref a ∧ SqT K H a xs ∧ Dzs K H xs ds := by
  cases h with
  | tup h hs => exact ⟨_, _, rfl, st_of h, hs⟩
  | zt h => exact ⟨_, _, rfl, .inr h, .cons (.int 0) (.cons (.int 1) .nil)⟩
  | ft h _ hs => exact ⟨_, _, rfl, .inl (.inr ⟨_, h⟩), hs⟩
/-- what is read at once: data, or a tuple of the module's own -/
inductive DzR (K : PySem.W.Frag) (H : Hp) (v : V) (d : D) : Prop
  | dz (h : Dz K H v d)
  | kept {a : Addr} {xs : List V} {ds : List D} (hv : v = .ref a) (hd : d = .tup ds) (h : SqT K H a xs) (hs : Dzs K H xs ds)
theorem DzR.tup_inv {v : V} {ds : List D} (h : DzR K H v (.tup ds)) : ∃ a xs, v = .ref a ∧ SqT K H a xs ∧ Dzs K H xs ds := by
  cases h with
  | dz h => exact h.tup_inv
  | kept hv hd h hs => cases hd; exact ⟨_, _, hv, h, hs⟩
theorem DzR.lst_inv {v : V} {ds : List D} (h : DzR K H v (.lst ds)) : ∃ a xs, v = .ref a ∧ SqL K H a xs ∧ Dzs K H xs ds := by
  cases h with
  | dz h => exact h.lst_inv
  | kept hv hd h hs => cases hd
theorem DzR.int_inv {v : V} {i : Int} (h : DzR K H v (.int i)) : v = .int i := by
  cases h with
  | dz h => exact h.int_inv
  | kept hv hd h hs => cases hd
theorem DzR.bl_inv {v : V} {i : Bool} (h : DzR K H v (.bl i)) : v = .bl i := by
  cases h with
  | dz h => exact h.bl_inv
  | kept hv hd h hs => cases hd
theorem DzR.str_inv {v : V} {i : Str} (h : DzR K H v (.str i)) : v = .str i := by
  cases h with
  | dz h => exact h.str_inv
  | kept hv hd h hs => cases hd
theorem DzR.non_inv {v : V} (h : DzR K H v .non) : v = .non := by
  cases h with
  | dz h => exact h.non_inv
  | kept hv hd h hs => cases hd
/-- lists of flat things -/
theorem Dzs.ints : ∀ {xs : List V} {is : List Int}, Dzs K H xs (is.map D.int) → xs = is.map V.int
  | _, [], .nil => rfl
  | _, i :: is, .cons h hs => by rw [h.int_inv, hs.ints]; rfl
theorem Dzs.strs : ∀ {xs : List V} {is : List Str}, Dzs K H xs (is.map D.str) → xs = is.map V.str
  | _, [], .nil => rfl
  | _, i :: is, .cons h hs => by rw [h.str_inv, hs.strs]; rfl
theorem Dzs.bls : ∀ {xs : List V} {is : List Bool}, Dzs K H xs (is.map D.bl) → xs = is.map V.bl
  | _, [], .nil => rfl
  | _, i :: is, .cons h hs => by rw [h.bl_inv, hs.bls]; rfl
theorem Dzs.of_ints : ∀ (is : List Int), Dzs K H (is.map V.int) (is.map D.int)
  | [] => .nil
  | i :: is => .cons (.int i) (Dzs.of_ints is)
theorem Dzs.of_strs : ∀ (is : List Str), Dzs K H (is.map V.str) (is.map D.str)
  | [] => .nil
  | i :: is => .cons (.str i) (Dzs.of_strs is)
end

/-- what an object that the frame alone changes holds -/
inductive MO where
  | lst (ds : List D)
  | dK (ds : List (Key × D))
  | dT (ds : List (List Key × D))
  | ins (C : Addr) (ds : List (Str × D))
def MO.d : MO → D
  | .lst ds => .lst ds
  | .dK ds => .dK ds
  | .dT ds => .dT ds
  | .ins C ds => .ins C ds
def MOk (K : PySem.W.Frag) (G : Hp) : HO → MO → Prop
  | .lst vs, .lst ds => Dzs K G vs ds
  | .dK vs, .dK ds => DzP K G vs ds
  | .dT vs, .dT ds => DzT K G vs ds
  | .ins C _ vs, .ins C' ds => C = C' ∧ DzF K G vs ds
  | _, _ => False
theorem MOk.mono {K : PySem.W.Frag} {G G' : Hp} (e : Ex G G') {o : HO} {m : MO} (h : MOk K G o m) : MOk K G' o m := by
  cases o <;> cases m <;> simp only [MOk] at h ⊢
  · exact h.mono e
  · exact h.mono e
  · exact h.mono e
  · exact ⟨h.1, h.2.mono e⟩
theorem MOk.dz {K : PySem.W.Frag} {G : Hp} {o : HO} {m : MO} {p : Addr} (h : MOk K G o m) (hp : G p = some o) : Dz K G (.ref p) m.d := by
  cases o <;> cases m <;> simp only [MOk] at h
  · exact .lst (sq_of hp) h
  · exact .dK hp h
  · exact .dT hp h
  · obtain ⟨rfl, h⟩ := h
    exact .ins hp h
/-- a slot's cell: nothing known; frozen data; an object that the frame alone changes -/
inductive Cell where
  | no
  | fr (d : D)
  | mu (m : MO)
abbrev Cell.own (ds : List D) : Cell := .mu (.lst ds)
abbrev Rho := List Cell
abbrev MS := Addr → Prop

structure Grow (M : MS) (G H G' H' : Hp) : Prop where
  g : Ex G G'
  k : ∀ a o, ¬ M a → H a = some o → H' a = some o
  n : ∀ a, ¬ M a → H a ≠ none → G a = none → G' a = none
  d : ∀ a, H' a = none → H a = none
theorem Grow.refl {M : MS} {G H : Hp} : Grow M G H G H := ⟨Ex.refl _, fun _ _ _ h => h, fun _ _ _ h => h, fun _ h => h⟩
theorem Grow.trans {M : MS} {G H G1 H1 G2 H2 : Hp} (a : Grow M G H G1 H1) (b : Grow M G1 H1 G2 H2) : Grow M G H G2 H2 :=
  ⟨a.g.trans b.g, fun x o m h => b.k x o m (a.k x o m h), fun x m h g => b.n x m (by
    cases e : H x with
    | none => exact absurd e h
    | some o => rw [a.k x o m e]; simp) (a.n x m h g), fun x h => a.d x (b.d x h)⟩
theorem Grow.wk {M M' : MS} {G H G' H' : Hp} (h : Grow M G H G' H') (m : ∀ a, H a ≠ none → M a → M' a) : Grow M' G H G' H' :=
  ⟨h.g, fun a o n e => h.k a o (fun q => n (m a (by rw [e]; simp) q)) e, fun a n e g => h.n a (fun q => n (m a e q)) e g, h.d⟩
theorem upd_none {H : Hp} {p a : Addr} {o : HO} (h : upd H p o a = none) : H a = none := by
  by_cases q : a = p
  · subst q; rw [upd_same] at h; cases h
  · rw [upd_ne q] at h; exact h
/-- something new, frozen or not -/
theorem Grow.new {M : MS} {G H : Hp} {p : Addr} {o : HO} (hp : H p = none) (s : Ex G H) : Grow M G H (upd G p o) (upd H p o) := by
  have gp : G p = none := fresh_back s hp
  refine ⟨Ex.new gp, fun a u _ e => ?_, fun a _ e g => ?_, fun a e => upd_none e⟩
  · rw [upd_ne (ne_of_none e hp)]; exact e
  · have q : a ≠ p := fun z => by rw [z] at e; exact e hp
    rw [upd_ne q]; exact g
theorem Grow.newO {M : MS} {G H : Hp} {p : Addr} {o : HO} (hp : H p = none) : Grow M G H G (upd H p o) := by
  refine ⟨Ex.refl _, fun a u _ e => ?_, fun a _ e g => g, fun a e => upd_none e⟩
  rw [upd_ne (ne_of_none e hp)]; exact e

structure Sim (K : PySem.W.Frag) (M : MS) (G H : Hp) (σ : L2.St) (ρ : Rho) : Prop where
  len : σ.length = ρ.length
  sub : Ex G H
  fr : ∀ {i : Nat} {d : D}, ρ[i]? = some (.fr d) → ∃ v, σ[i]? = some (some v) ∧ Dz K G v d
  mu : ∀ {i : Nat} {m : MO}, ρ[i]? = some (.mu m) → ∃ p o, σ[i]? = some (some (.ref p)) ∧ M p ∧ G p = none ∧ H p = some o ∧ MOk K G o m
  apart : ∀ {i j : Nat} {m n : MO} {p : Addr}, i ≠ j → ρ[i]? = some (.mu m) → ρ[j]? = some (.mu n) → σ[i]? = some (some (.ref p)) → σ[j]? ≠ some (some (.ref p))

section
variable {K : PySem.W.Frag} {M M' : MS} {G H G' H' : Hp} {σ : L2.St} {ρ ρ' : Rho}
theorem mok_lst {o : HO} {ds : List D} (h : MOk K G o (.lst ds)) : ∃ vs, o = .lst vs ∧ Dzs K G vs ds := by
  cases o <;> first | exact ⟨_, rfl, h⟩ | exact h.elim
theorem mok_ins {o : HO} {C : Addr} {ds : List (Str × D)} (h : MOk K G o (.ins C ds)) : ∃ dx vs, o = .ins C dx vs ∧ DzF K G vs ds := by
  cases o <;> first | exact ⟨_, _, by rw [h.1], h.2⟩ | exact h.elim
theorem Sim.own (S : Sim K M G H σ ρ) {i : Nat} {ds : List D} (h : ρ[i]? = some (.own ds)) : ∃ p vs, σ[i]? = some (some (.ref p)) ∧ M p ∧ G p = none ∧ H p = some (.lst vs) ∧ Dzs K G vs ds := by
  obtain ⟨p, o, e, m, g, hp, k⟩ := S.mu h
  obtain ⟨vs, rfl, k⟩ := mok_lst k
  exact ⟨p, vs, e, m, g, hp, k⟩
/-- a growth that leaves the own objects -/
theorem Sim.grow (S : Sim K M G H σ ρ) (s : Ex G' H') (g : Ex G G') (hk : ∀ (p : Addr) (m : MO) (i : Nat), ρ[i]? = some (.mu m) → σ[i]? = some (some (.ref p)) → H' p = H p ∧ G' p = none) : Sim K M G' H' σ ρ where
  len := S.len
  sub := s
  fr := fun h => by
    obtain ⟨v, e, d⟩ := S.fr h
    exact ⟨v, e, d.mono g⟩
  mu := fun {i m} h => by
    obtain ⟨p, o, e, mp, gp, hp, d⟩ := S.mu h
    obtain ⟨k1, k2⟩ := hk p m i h e
    exact ⟨p, o, e, mp, k2, k1.trans hp, d.mono g⟩
  apart := S.apart
/-- the set that may change, made smaller or greater -/
theorem Sim.chM (S : Sim K M G H σ ρ) (h : ∀ p, H p ≠ none → M p → M' p) : Sim K M' G H σ ρ where
  len := S.len
  sub := S.sub
  fr := S.fr
  mu := fun e => by
    obtain ⟨p, o, e, m, gp, hp, d⟩ := S.mu e
    exact ⟨p, o, e, h p (by rw [hp]; simp) m, gp, hp, d⟩
  apart := S.apart
theorem Sim.chMo (S : Sim K M G H σ ρ) (h : ∀ (p : Addr) (m : MO) (i : Nat), ρ[i]? = some (.mu m) → σ[i]? = some (some (.ref p)) → M' p) : Sim K M' G H σ ρ where
  len := S.len
  sub := S.sub
  fr := S.fr
  mu := fun q => by
    obtain ⟨p, o, e, m, gp, hp, d⟩ := S.mu q
    exact ⟨p, o, e, h p _ _ q e, gp, hp, d⟩
  apart := S.apart
theorem Sim.new {p : Addr} {o : HO} (S : Sim K M G H σ ρ) (hp : H p = none) : Sim K M (upd G p o) (upd H p o) σ ρ :=
  S.grow (fun a u e => by
    by_cases q : a = p
    · subst q; rw [upd_same] at e ⊢; exact e
    · rw [upd_ne q] at e ⊢; exact S.sub a u e) (Ex.new (fresh_back S.sub hp)) fun q m i h e => by
    obtain ⟨p', o', e', mp, gp, hp', d⟩ := S.mu h
    have z : q = p' := by rw [e] at e'; cases e'; rfl
    subst z
    have y := ne_of_none hp' hp
    exact ⟨upd_ne y, by rw [upd_ne y]; exact gp⟩
theorem Sim.newO {p : Addr} {o : HO} (S : Sim K M G H σ ρ) (hp : H p = none) : Sim K M G (upd H p o) σ ρ :=
  S.grow (S.sub.trans (Ex.new hp)) (Ex.refl _) fun q m i h e => by
    obtain ⟨p', o', e', mp, gp, hp', d⟩ := S.mu h
    have z : q = p' := by rw [e] at e'; cases e'; rfl
    subst z
    exact ⟨upd_ne (ne_of_none hp' hp), gp⟩
theorem get_set {α : Type} {l : List α} {i j : Nat} {x y : α} (h : (l.set i x)[j]? = some y) : (i = j ∧ y = x ∧ i < l.length) ∨ (i ≠ j ∧ l[j]? = some y) := by
  by_cases e : i = j
  · subst e
    by_cases hl : i < l.length
    · rw [List.getElem?_set_self hl] at h
      exact .inl ⟨rfl, (Option.some.inj h).symm, hl⟩
    · rw [List.getElem?_eq_none (by rw [List.length_set]; omega)] at h
      cases h
  · rw [List.getElem?_set_ne e] at h
    exact .inr ⟨e, h⟩
/-- a slot gets frozen data -/
theorem Sim.setF {i : Nat} {v : V} {d : D} (S : Sim K M G H σ ρ) (hd : Dz K G v d) : Sim K M G H (σ.set i (some v)) (ρ.set i (.fr d)) where
  len := by rw [List.length_set, List.length_set]; exact S.len
  sub := S.sub
  fr := fun {j e} h => by
    rcases get_set h with ⟨ej, ed, hl⟩ | ⟨ej, h⟩
    · subst ej
      cases ed
      exact ⟨v, by rw [List.getElem?_set_self (by rw [S.len]; exact hl)], hd⟩
    · obtain ⟨u, e1, e2⟩ := S.fr h
      exact ⟨u, by rw [List.getElem?_set_ne ej]; exact e1, e2⟩
  mu := fun {j e} h => by
    rcases get_set h with ⟨ej, ed, hl⟩ | ⟨ej, h⟩
    · cases ed
    · obtain ⟨p, o, e1, e2⟩ := S.mu h
      exact ⟨p, o, by rw [List.getElem?_set_ne ej]; exact e1, e2⟩
  apart := fun {j k m n p} hjk h1 h2 h3 h4 => by
    rcases get_set h1 with ⟨ej, ed, hl⟩ | ⟨ej, h1⟩
    · cases ed
    rcases get_set h2 with ⟨ek, ed, hl⟩ | ⟨ek, h2⟩
    · cases ed
    rw [List.getElem?_set_ne ej] at h3
    rw [List.getElem?_set_ne ek] at h4
    exact S.apart hjk h1 h2 h3 h4
/-- a slot gets a new own object -/
theorem Sim.setO {i : Nat} {p : Addr} {o : HO} {m : MO} (S : Sim K M G H σ ρ) (hm : M p) (hg : G p = none) (hp : H p = some o) (hd : MOk K G o m)
    (hn : ∀ (j : Nat) (n : MO), j ≠ i → ρ[j]? = some (.mu n) → σ[j]? ≠ some (some (.ref p))) : Sim K M G H (σ.set i (some (.ref p))) (ρ.set i (.mu m)) where
  len := by rw [List.length_set, List.length_set]; exact S.len
  sub := S.sub
  fr := fun {j e} h => by
    rcases get_set h with ⟨ej, ed, hl⟩ | ⟨ej, h⟩
    · cases ed
    · obtain ⟨u, e1, e2⟩ := S.fr h
      exact ⟨u, by rw [List.getElem?_set_ne ej]; exact e1, e2⟩
  mu := fun {j e} h => by
    rcases get_set h with ⟨ej, ed, hl⟩ | ⟨ej, h⟩
    · subst ej
      cases ed
      exact ⟨p, o, by rw [List.getElem?_set_self (by rw [S.len]; exact hl)], hm, hg, hp, hd⟩
    · obtain ⟨p, vs, e1, e2⟩ := S.mu h
      exact ⟨p, vs, by rw [List.getElem?_set_ne ej]; exact e1, e2⟩
  apart := fun {j k m' n q} hjk h1 h2 h3 h4 => by
    rcases get_set h1 with ⟨ej, ed, hl⟩ | ⟨ej, h1⟩
    · subst ej
      rw [List.getElem?_set_self (by rw [S.len]; exact hl)] at h3
      have ep : p = q := by cases h3; rfl
      subst ep
      rcases get_set h2 with ⟨ek, _, _⟩ | ⟨ek, h2⟩
      · exact hjk ek
      · rw [List.getElem?_set_ne ek] at h4
        exact hn k n (fun z => ek z.symm) h2 h4
    · rw [List.getElem?_set_ne ej] at h3
      rcases get_set h2 with ⟨ek, ed, hl⟩ | ⟨ek, h2⟩
      · subst ek
        rw [List.getElem?_set_self (by rw [S.len]; exact hl)] at h4
        have ep : p = q := by cases h4; rfl
        subst ep
        exact hn j m' (fun z => hjk z) h1 h3
      · rw [List.getElem?_set_ne ek] at h4
        exact S.apart hjk h1 h2 h3 h4
/-- the own object at a slot changes -/
theorem Sim.chU {i : Nat} {p : Addr} {o : HO} {m n : MO} (S : Sim K M G H σ ρ) (h0 : ρ[i]? = some (.mu m)) (hi : σ[i]? = some (some (.ref p))) (hd : MOk K G o n) :
    Sim K M G (upd H p o) σ (ρ.set i (.mu n)) where
  len := by rw [List.length_set]; exact S.len
  sub := fun a u e => by
    obtain ⟨p', o', e', mp, gp, hp', d⟩ := S.mu h0
    have z : p = p' := by rw [hi] at e'; cases e'; rfl
    subst z
    rw [upd_ne (ne_of_none e gp)]
    exact S.sub a u e
  fr := fun {j e} h => by
    rcases get_set h with ⟨ej, ed, hl⟩ | ⟨ej, h⟩
    · cases ed
    · exact S.fr h
  mu := fun {j e} h => by
    obtain ⟨p', o', e', mp, gp, hp', d⟩ := S.mu h0
    have z : p = p' := by rw [hi] at e'; cases e'; rfl
    subst z
    rcases get_set h with ⟨ej, ed, hl⟩ | ⟨ej, h⟩
    · subst ej
      cases ed
      exact ⟨p, o, hi, mp, gp, upd_same, hd⟩
    · obtain ⟨q, vs, e1, m1, g1, h1, d1⟩ := S.mu h
      have ne : q ≠ p := fun z => by
        subst z
        exact S.apart ej h0 h hi e1
      exact ⟨q, vs, e1, m1, g1, by rw [upd_ne ne]; exact h1, d1⟩
  apart := fun {j k m' n' q} hjk h1 h2 h3 h4 => by
    have a1 : ∃ x, ρ[j]? = some (.mu x) := by
      rcases get_set h1 with ⟨ej, _, _⟩ | ⟨_, h1⟩
      · subst ej; exact ⟨_, h0⟩
      · exact ⟨_, h1⟩
    have a2 : ∃ x, ρ[k]? = some (.mu x) := by
      rcases get_set h2 with ⟨ej, _, _⟩ | ⟨_, h2⟩
      · subst ej; exact ⟨_, h0⟩
      · exact ⟨_, h2⟩
    obtain ⟨x, a1⟩ := a1
    obtain ⟨y, a2⟩ := a2
    exact S.apart hjk a1 a2 h3 h4
theorem Sim.chO {i : Nat} {p : Addr} {us : List V} {ds es : List D} (S : Sim K M G H σ ρ) (h0 : ρ[i]? = some (.own ds)) (hi : σ[i]? = some (some (.ref p))) (hd : Dzs K G us es) :
    Sim K M G (upd H p (.lst us)) σ (ρ.set i (.own es)) := S.chU (n := .lst es) h0 hi hd
/-- an own object is frozen -/
theorem Sim.freezeM {i : Nat} {m : MO} (S : Sim K M G H σ ρ) (h0 : ρ[i]? = some (.mu m)) :
    ∃ G', Grow M G H G' H ∧ Sim K M G' H σ (ρ.set i (.fr m.d)) := by
  obtain ⟨p, o, e', mp, gp, hp', d⟩ := S.mu h0
  have eg : Ex G (upd G p o) := Ex.new gp
  refine ⟨upd G p o, ⟨eg, fun _ _ _ h => h, fun a n _ g => ?_, fun _ h => h⟩, ?_⟩
  · have q : a ≠ p := fun z => by subst z; exact n mp
    rw [upd_ne q]; exact g
  · have s : Ex (upd G p o) H := fun a u e => by
      by_cases q : a = p
      · subst q; rw [upd_same] at e; cases e; exact hp'
      · rw [upd_ne q] at e; exact S.sub a u e
    refine ⟨by rw [List.length_set]; exact S.len, s, fun {j e} h => ?_, fun {j e} h => ?_, fun {j k m' n' q} hjk h1 h2 h3 h4 => ?_⟩
    · rcases get_set h with ⟨ej, ed, hl⟩ | ⟨ej, h⟩
      · subst ej
        cases ed
        exact ⟨_, e', (d.mono eg).dz upd_same⟩
      · obtain ⟨u, e1, e2⟩ := S.fr h
        exact ⟨u, e1, e2.mono eg⟩
    · rcases get_set h with ⟨ej, ed, hl⟩ | ⟨ej, h⟩
      · cases ed
      · obtain ⟨q, us, e1, m1, g1, h1, d1⟩ := S.mu h
        have ne : q ≠ p := fun z => by
          subst z
          exact S.apart ej h0 h e' e1
        exact ⟨q, us, e1, m1, by rw [upd_ne ne]; exact g1, h1, d1.mono eg⟩
    · rcases get_set h1 with ⟨_, ed, _⟩ | ⟨_, h1⟩
      · cases ed
      rcases get_set h2 with ⟨_, ed, _⟩ | ⟨_, h2⟩
      · cases ed
      exact S.apart hjk h1 h2 h3 h4
end

/-! ### what things come to -/
section
variable (K : PySem.W.Frag)
/-- an expression gives frozen data -/
def EvZ (te : TE) (ρ ρ' : Rho) (d : D) : Prop := ∀ M G H σ, Sim K M G H σ ρ → ∀ Q : VK, (∀ v G' H', Grow M G H G' H' → Sim K M G' H' σ ρ' → Dz K G' v d → Q v H') → te σ H Q
/-- an expression gives what is read at once (an own list, too) -/
def RdZ (te : TE) (ρ ρ' : Rho) (d : D) : Prop := ∀ M G H σ, Sim K M G H σ ρ → ∀ Q : VK, (∀ v G' H', Grow M G H G' H' → Sim K M G' H' σ ρ' → DzR K H' v d → Q v H') → te σ H Q
def TsZ (tt : TT) (ρ ρ' : Rho) (b : Bool) : Prop := ∀ M G H σ, Sim K M G H σ ρ → ∀ Q : Bool → Hp → Prop, (∀ G' H', Grow M G H G' H' → Sim K M G' H' σ ρ' → Q b H') → tt σ H Q
def AgZ (ta : TA) (ρ ρ' : Rho) (ds : List D) : Prop := ∀ M G H σ, Sim K M G H σ ρ → ∀ Q : List V → Hp → Prop, (∀ vs G' H', Grow M G H G' H' → Sim K M G' H' σ ρ' → Dzs K G' vs ds → Q vs H') → ta σ H Q
def PoZ (to : TO) (ρ ρ' : Rho) (o : Option Int) : Prop := ∀ M G H σ, Sim K M G H σ ρ → ∀ Q : Option Int → Hp → Prop, (∀ G' H', Grow M G H G' H' → Sim K M G' H' σ ρ' → Q o H') → to σ H Q
end

inductive Out where
  | nx (ρ : Rho)
  | bk (ρ : Rho)
  | ct (ρ : Rho)
  | rt (ρ : Rho) (c : Cell)

def ResOk (K : PySem.W.Frag) (M : MS) (G H : Hp) (v : V) : Cell → Prop
  | .no => True
  | .fr d => Dz K G v d
  | .mu m => ∃ p o, v = .ref p ∧ M p ∧ G p = none ∧ H p = some o ∧ MOk K G o m

/-- slots of S stand as they were -/
def Keep (S : List Nat) (σ σ' : L2.St) : Prop := ∀ i ∈ S, σ'[i]? = σ[i]?
theorem Keep.refl {S : List Nat} {σ : L2.St} : Keep S σ σ := fun _ _ => rfl
theorem Keep.trans {S : List Nat} {σ σ1 σ2 : L2.St} (a : Keep S σ σ1) (b : Keep S σ1 σ2) : Keep S σ σ2 := fun i h => (b i h).trans (a i h)
theorem Keep.set {S : List Nat} {σ : L2.St} {i : Nat} {v : Option V} (h : i ∉ S) : Keep S σ (σ.set i v) := fun j hj => by
  have e : i ≠ j := fun z => by subst z; exact h hj
  rw [List.getElem?_set_ne e]

def PostZ (K : PySem.W.Frag) (S : List Nat) (M : MS) (G H : Hp) (σ : L2.St) (E : Ends) : Out → Prop
  | .nx ρ' => ∀ G' H' σ', Grow M G H G' H' → Keep S σ σ' → Sim K M G' H' σ' ρ' → E.nx σ' H'
  | .bk ρ' => ∀ G' H' σ', Grow M G H G' H' → Keep S σ σ' → Sim K M G' H' σ' ρ' → E.bk σ' H'
  | .ct ρ' => ∀ G' H' σ', Grow M G H G' H' → Keep S σ σ' → Sim K M G' H' σ' ρ' → E.ct σ' H'
  | .rt ρ' c => ∀ v G' H' σ', Grow M G H G' H' → Keep S σ σ' → Sim K M G' H' σ' ρ' → ResOk K M G' H' v c → E.rt v H'
def Fresh (M : MS) (H : Hp) : Prop := ∀ a, H a = none → M a
theorem Fresh.grow {M : MS} {G H G' H' : Hp} (f : Fresh M H) (g : Grow M G H G' H') : Fresh M H' := fun a h => Classical.byContradiction fun n => by
  cases e : H a with
  | none => exact n (f a e)
  | some o => rw [g.k a o n e] at h; cases h
def ExZ (K : PySem.W.Frag) (S : List Nat) (ts : TS) (ρ : Rho) (o : Out) : Prop := ∀ M G H σ (E : Ends), Fresh M H → Sim K M G H σ ρ → PostZ K S M G H σ E o → ts E σ H
theorem PostZ.go {K : PySem.W.Frag} {S : List Nat} {M : MS} {G H G1 H1 : Hp} {σ σ1 : L2.St} {E : Ends} : ∀ {o : Out}, PostZ K S M G H σ E o → Grow M G H G1 H1 → Keep S σ σ1 → PostZ K S M G1 H1 σ1 E o
  | .nx _, h, g, k => fun G' H' σ' g' k' s => h G' H' σ' (g.trans g') (k.trans k') s
  | .bk _, h, g, k => fun G' H' σ' g' k' s => h G' H' σ' (g.trans g') (k.trans k') s
  | .ct _, h, g, k => fun G' H' σ' g' k' s => h G' H' σ' (g.trans g') (k.trans k') s
  | .rt _ _, h, g, k => fun v G' H' σ' g' k' s r => h v G' H' σ' (g.trans g') (k.trans k') s r
end Z

set_option Elab.async false
set_option linter.all false
set_option maxRecDepth 100000
set_option maxHeartbeats 2000000
/-! ZRules: the rules of expressions, tests, arguments, targets, walks, statements, calls over cells. -/
namespace Z
open PySem L2
open Evl (Ex Ex.refl Ex.trans Ex.new ex_rd ex_l ex_t sq_of st_of fresh_back sz_of sz_lt)
variable {K : PySem.W.Frag} {ρ ρ' ρ1 ρ2 ρ3 : Rho} {ta tb tc te tl : TE} {tt tu : TT} {d e x y : D} {ds es xs ys : List D}

/-! ### expressions -/
theorem EvZ.rd (h : EvZ K te ρ ρ' d) : RdZ K te ρ ρ' d := fun M G H σ S Q q => h M G H σ S Q fun v G' H' g s dz => q v G' H' g s (.dz (dz.mono s.sub))
theorem ev_var {i : Nat} (h : ρ[i]? = some (.fr d)) : EvZ K (tVar i) ρ ρ d := fun M G H σ S Q q => by
  obtain ⟨v, e, dz⟩ := S.fr h
  exact ⟨v, e, q v G H .refl S dz⟩
theorem rd_own {i : Nat} (h : ρ[i]? = some (.own ds)) : RdZ K (tVar i) ρ ρ (.lst ds) := fun M G H σ S Q q => by
  obtain ⟨p, vs, e, m, gp, hp, dz⟩ := S.own h
  exact ⟨.ref p, e, q _ G H .refl S (.dz (.lst (sq_of hp) (dz.mono S.sub)))⟩
theorem ev_c {v : V} (h : ∀ H, Dz K H v d) : EvZ K (tC v) ρ ρ d := fun M G H σ S Q q => q v G H .refl S (h G)
theorem ev_int {i : Int} : EvZ K (tC (.int i)) ρ ρ (.int i) := ev_c fun _ => .int i
theorem ev_str {i : Str} : EvZ K (tC (.str i)) ρ ρ (.str i) := ev_c fun _ => .str i
theorem ev_bl {i : Bool} : EvZ K (tC (.bl i)) ρ ρ (.bl i) := ev_c fun _ => .bl i
theorem ev_non : EvZ K (tC .non) ρ ρ .non := ev_c fun _ => .non
/-- a tuple of the module's own -/
theorem rd_c {v : V} (h : ∀ H, DzR K H v d) : RdZ K (tC v) ρ ρ d := fun M G H σ S Q q => q v G H .refl S (h H)
theorem ev_is (h : EvZ K te ρ ρ' d) (q : d = e) : EvZ K te ρ ρ' e := by subst q; exact h
/-- an operation upon two frozen things that touches nothing -/
theorem ev_op {r : R2} {d1 d2 : D} (ha : EvZ K ta ρ ρ1 d1) (hb : RdZ K tb ρ1 ρ2 d2) (hr : ∀ (u v : V) G H (Q : VK), Ex G H → Dz K G u d1 → DzR K H v d2 → (∀ z, Dz K G z d → Q z H) → r u v H Q) : EvZ K (tOp r ta tb) ρ ρ2 d := fun M G H σ S Q q =>
  ha M G H σ S _ fun u G1 H1 g1 s1 du => hb M G1 H1 σ s1 _ fun v G2 H2 g2 s2 dv => hr u v G2 H2 Q s2.sub (du.mono g2.g) dv fun z dz => q z G2 H2 (g1.trans g2) s2 dz
theorem ev_i0 {g : Int → Int → V} {i j : Int} (ha : EvZ K ta ρ ρ1 (.int i)) (hb : EvZ K tb ρ1 ρ2 (.int j)) (h : ∀ H, Dz K H (g i j) d) : EvZ K (tOp (rI0 g) ta tb) ρ ρ2 d :=
  ev_op ha hb.rd fun u v G H Q _ du dv q => ⟨i, j, du.int_inv, dv.int_inv, q _ (h G)⟩
theorem ev_i {C : Int → Int → Prop} {g : Int → Int → V} {i j : Int} (ha : EvZ K ta ρ ρ1 (.int i)) (hb : EvZ K tb ρ1 ρ2 (.int j)) (hc : C i j) (h : ∀ H, Dz K H (g i j) d) : EvZ K (tOp (rI C g) ta tb) ρ ρ2 d :=
  ev_op ha hb.rd fun u v G H Q _ du dv q => ⟨i, j, du.int_inv, dv.int_inv, hc, q _ (h G)⟩
theorem ev_add {i j : Int} (ha : EvZ K ta ρ ρ1 (.int i)) (hb : EvZ K tb ρ1 ρ2 (.int j)) : EvZ K (tOp (rI0 fun i j => .int (i + j)) ta tb) ρ ρ2 (.int (i + j)) := ev_i0 ha hb fun _ => .int _
theorem ev_sub {i j : Int} (ha : EvZ K ta ρ ρ1 (.int i)) (hb : EvZ K tb ρ1 ρ2 (.int j)) : EvZ K (tOp (rI0 fun i j => .int (i - j)) ta tb) ρ ρ2 (.int (i - j)) := ev_i0 ha hb fun _ => .int _
theorem ev_mul {i j : Int} (ha : EvZ K ta ρ ρ1 (.int i)) (hb : EvZ K tb ρ1 ρ2 (.int j)) (hc : CMul i j) : EvZ K (tOp (rI CMul fun i j => .int (i * j)) ta tb) ρ ρ2 (.int (i * j)) := ev_i ha hb hc fun _ => .int _
theorem ev_mod {i j : Int} (ha : EvZ K ta ρ ρ1 (.int i)) (hb : EvZ K tb ρ1 ρ2 (.int j)) (hc : 0 < j) : EvZ K (tOp (rI (fun _ j => 0 < j) fun i j => .int (i % j)) ta tb) ρ ρ2 (.int (i % j)) := ev_i ha hb hc fun _ => .int _
theorem ev_fdiv {i j : Int} (ha : EvZ K ta ρ ρ1 (.int i)) (hb : EvZ K tb ρ1 ρ2 (.int j)) (hc : CDiv i j) : EvZ K (tOp (rI CDiv fun i j => .int (i / j)) ta tb) ρ ρ2 (.int (i / j)) := ev_i ha hb hc fun _ => .int _
theorem ev_pow {i j : Int} (ha : EvZ K ta ρ ρ1 (.int i)) (hb : EvZ K tb ρ1 ρ2 (.int j)) (hc : CPow i j) : EvZ K (tOp (rI CPow fun i j => .int (i ^ j.toNat)) ta tb) ρ ρ2 (.int (i ^ j.toNat)) := ev_i ha hb hc fun _ => .int _
theorem ev_lt {i j : Int} (ha : EvZ K ta ρ ρ1 (.int i)) (hb : EvZ K tb ρ1 ρ2 (.int j)) : EvZ K (tOp (rI0 fun i j => .bl (decide (i < j))) ta tb) ρ ρ2 (.bl (decide (i < j))) := ev_i0 ha hb fun _ => .bl _
theorem ev_le {i j : Int} (ha : EvZ K ta ρ ρ1 (.int i)) (hb : EvZ K tb ρ1 ρ2 (.int j)) : EvZ K (tOp (rI0 fun i j => .bl (decide (i ≤ j))) ta tb) ρ ρ2 (.bl (decide (i ≤ j))) := ev_i0 ha hb fun _ => .bl _
theorem ev_gt {i j : Int} (ha : EvZ K ta ρ ρ1 (.int i)) (hb : EvZ K tb ρ1 ρ2 (.int j)) : EvZ K (tOp (rI0 fun i j => .bl (decide (j < i))) ta tb) ρ ρ2 (.bl (decide (j < i))) := ev_i0 ha hb fun _ => .bl _
theorem ev_ge {i j : Int} (ha : EvZ K ta ρ ρ1 (.int i)) (hb : EvZ K tb ρ1 ρ2 (.int j)) : EvZ K (tOp (rI0 fun i j => .bl (decide (j ≤ i))) ta tb) ρ ρ2 (.bl (decide (j ≤ i))) := ev_i0 ha hb fun _ => .bl _
/-- == of scalars -/
theorem ev_eqI {i j : Int} (ha : EvZ K ta ρ ρ1 (.int i)) (hb : EvZ K tb ρ1 ρ2 (.int j)) : EvZ K (tOp rEq ta tb) ρ ρ2 (.bl (decide (i = j))) :=
  ev_op ha hb.rd fun u v G H Q _ du dv q => by
    rw [du.int_inv, dv.int_inv]
    exact ⟨rfl, q _ (by rw [show decide (V.int i = V.int j) = decide (i = j) by simp]; exact .bl _)⟩
theorem ev_neI {i j : Int} (ha : EvZ K ta ρ ρ1 (.int i)) (hb : EvZ K tb ρ1 ρ2 (.int j)) : EvZ K (tOp rNe ta tb) ρ ρ2 (.bl (!decide (i = j))) :=
  ev_op ha hb.rd fun u v G H Q _ du dv q => by
    rw [du.int_inv, dv.int_inv]
    exact ⟨rfl, q _ (by rw [show decide (V.int i = V.int j) = decide (i = j) by simp]; exact .bl _)⟩
theorem ev_eqS {i j : Str} (ha : EvZ K ta ρ ρ1 (.str i)) (hb : EvZ K tb ρ1 ρ2 (.str j)) : EvZ K (tOp rEq ta tb) ρ ρ2 (.bl (decide (i = j))) :=
  ev_op ha hb.rd fun u v G H Q _ du dv q => by
    rw [du.str_inv, dv.str_inv]
    exact ⟨rfl, q _ (by rw [show decide (V.str i = V.str j) = decide (i = j) by simp]; exact .bl _)⟩
theorem ev_eqB {i j : Bool} (ha : EvZ K ta ρ ρ1 (.bl i)) (hb : EvZ K tb ρ1 ρ2 (.bl j)) : EvZ K (tOp rEq ta tb) ρ ρ2 (.bl (decide (i = j))) :=
  ev_op ha hb.rd fun u v G H Q _ du dv q => by
    rw [du.bl_inv, dv.bl_inv]
    exact ⟨rfl, q _ (by rw [show decide (V.bl i = V.bl j) = decide (i = j) by simp]; exact .bl _)⟩
/-- texts -/
theorem ev_catS {i j : Str} (ha : EvZ K ta ρ ρ1 (.str i)) (hb : EvZ K tb ρ1 ρ2 (.str j)) (hl : i.length + j.length ≤ 100000) :
    EvZ K (tOp (fun x y H Q => ∃ i j, x = .str i ∧ y = .str j ∧ i.length + j.length ≤ sizeLine ∧ Q (.str (i ++ j)) H) ta tb) ρ ρ2 (.str (i ++ j)) :=
  ev_op ha hb.rd fun u v G H Q _ du dv q => ⟨i, j, du.str_inv, dv.str_inv, sz_of hl, q _ (.str _)⟩
theorem ev_inSg {c : Nat} {z : Str} (ha : EvZ K ta ρ ρ1 (.str ⟨#[c]⟩)) (hb : EvZ K tb ρ1 ρ2 (.str z)) :
    EvZ K (tOp (fun x y H Q => ∃ (c : Nat) (z : Str), x = .str ⟨#[c]⟩ ∧ y = .str z ∧ Q (.bl (decide (c ∈ z.cps.toList))) H) ta tb) ρ ρ2 (.bl (decide (c ∈ z.cps.toList))) :=
  ev_op ha hb.rd fun u v G H Q _ du dv q => ⟨c, z, du.str_inv, dv.str_inv, q _ (.bl _)⟩
/-- x in a list or tuple of texts -/
theorem inV_str (x : Str) (zs : List Str) : inV (.str x) (zs.map V.str) = decide (x ∈ zs) := by
  unfold inV
  induction zs with
  | nil => rfl
  | cons z zs ih =>
    rw [List.map_cons, List.any_cons, ih]
    show (z == x || decide (x ∈ zs)) = decide (x ∈ z :: zs)
    by_cases q : z = x
    · subst q
      rw [show (z == z) = true from beq_self_eq_true z, Bool.true_or, decide_eq_true List.mem_cons_self]
    · rw [show (z == x) = false from beq_eq_false_iff_ne.mpr q, Bool.false_or]
      by_cases w : x ∈ zs
      · rw [decide_eq_true w, decide_eq_true (List.mem_cons_of_mem _ w)]
      · rw [decide_eq_false w, decide_eq_false (fun m => by
          rcases List.mem_cons.mp m with m | m
          · exact q m.symm
          · exact w m)]
theorem flat_strs (zs : List Str) : (zs.map V.str).all flatV = true := by
  induction zs with
  | nil => rfl
  | cons z zs ih => rw [List.map_cons, List.all_cons, ih]; rfl
theorem rd_seq {v : V} {H : Hp} (h : DzR K H v (.lst ds) ∨ DzR K H v (.tup ds)) : ∃ p xs, v = .ref p ∧ (SqL K H p xs ∨ SqT K H p xs) ∧ Dzs K H xs ds := by
  rcases h with h | h
  · obtain ⟨a, xs, e, h1, h2⟩ := h.lst_inv
    exact ⟨a, xs, e, .inl h1, h2⟩
  · obtain ⟨a, xs, e, h1, h2⟩ := h.tup_inv
    exact ⟨a, xs, e, .inr h1, h2⟩
theorem ev_inL {neg : Bool} {x : Str} {zs : List Str} (ha : EvZ K ta ρ ρ1 (.str x)) (hb : RdZ K tb ρ1 ρ2 (.lst (zs.map D.str))) : EvZ K (tOp (rIn K neg) ta tb) ρ ρ2 (.bl (if neg then !decide (x ∈ zs) else decide (x ∈ zs))) :=
  ev_op ha hb fun u v G H Q _ du dv q => by
    obtain ⟨p, xs, e, hs, hz⟩ := rd_seq (.inl dv)
    have ex := hz.strs
    subst ex
    rw [du.str_inv]
    exact ⟨p, _, e, hs, rfl, flat_strs zs, by rw [inV_str]; exact q _ (.bl _)⟩
theorem ev_inT {neg : Bool} {x : Str} {zs : List Str} (ha : EvZ K ta ρ ρ1 (.str x)) (hb : RdZ K tb ρ1 ρ2 (.tup (zs.map D.str))) : EvZ K (tOp (rIn K neg) ta tb) ρ ρ2 (.bl (if neg then !decide (x ∈ zs) else decide (x ∈ zs))) :=
  ev_op ha hb fun u v G H Q _ du dv q => by
    obtain ⟨p, xs, e, hs, hz⟩ := rd_seq (.inr dv)
    have ex := hz.strs
    subst ex
    rw [du.str_inv]
    exact ⟨p, _, e, hs, rfl, flat_strs zs, by rw [inV_str]; exact q _ (.bl _)⟩
/-- items -/
theorem atD {xs : List V} {H : Hp} {i : Int} (h : Dzs K H xs ds) (e : atI ds i = some d) : ∃ v, atI xs i = some v ∧ Dz K H v d := by
  unfold atI at e ⊢
  rw [h.len]
  cases q : ixN ds.length i with
  | none => rw [q] at e; cases e
  | some j =>
    rw [q] at e
    exact h.get e
theorem at_nat {j : Nat} (h : ds[j]? = some d) : atI ds (j : Int) = some d := atI_nat h
theorem at_of {i : Int} {j : Nat} (e : i = (j : Int)) (h : ds[j]? = some d) : atI ds i = some d := by rw [e]; exact atI_nat h
theorem ev_ixL {i : Int} (ha : EvZ K ta ρ ρ1 (.lst ds)) (hb : EvZ K tb ρ1 ρ2 (.int i)) (h : atI ds i = some d) : EvZ K (tOp (rIx K) ta tb) ρ ρ2 d := fun M G H σ S Q q =>
  ha M G H σ S _ fun u G1 H1 g1 s1 du => hb M G1 H1 σ s1 _ fun v G2 H2 g2 s2 dv => by
    obtain ⟨a, xs, e, hs, hz⟩ := (du.mono g2.g).lst_inv
    obtain ⟨w, e1, dw⟩ := atD hz h
    exact .inl ⟨a, xs, i, w, e, dv.int_inv, ex_l s2.sub hs, e1, q w G2 H2 (g1.trans g2) s2 dw⟩
theorem ev_ixT {i : Int} (ha : EvZ K ta ρ ρ1 (.tup ds)) (hb : EvZ K tb ρ1 ρ2 (.int i)) (h : atI ds i = some d) : EvZ K (tOp (rIx K) ta tb) ρ ρ2 d := fun M G H σ S Q q =>
  ha M G H σ S _ fun u G1 H1 g1 s1 du => hb M G1 H1 σ s1 _ fun v G2 H2 g2 s2 dv => by
    obtain ⟨a, xs, e, hs, hz⟩ := (du.mono g2.g).tup_inv
    obtain ⟨w, e1, dw⟩ := atD hz h
    exact .inr (.inl ⟨a, xs, i, w, e, dv.int_inv, ex_t s2.sub hs, e1, q w G2 H2 (g1.trans g2) s2 dw⟩)
theorem ev_ixS {i : Int} {z : Str} {c : Nat} (ha : EvZ K ta ρ ρ1 (.str z)) (hb : EvZ K tb ρ1 ρ2 (.int i)) (hl : z.length ≤ 100000) (h : atI z.cps.toList i = some c) : EvZ K (tOp (rIx K) ta tb) ρ ρ2 (.str ⟨#[c]⟩) := fun M G H σ S Q q =>
  ha M G H σ S _ fun u G1 H1 g1 s1 du => hb M G1 H1 σ s1 _ fun v G2 H2 g2 s2 dv =>
    .inr (.inr ⟨z, i, c, du.str_inv, dv.int_inv, sz_of hl, h, q _ G2 H2 (g1.trans g2) s2 (.str _)⟩)
/-- an item of an own list -/
theorem ev_ixO {i : Nat} {k : Int} (h : ρ[i]? = some (.own es)) (hb : EvZ K tb ρ ρ' (.int k)) (h' : ρ'[i]? = some (.own ds)) (hk : atI ds k = some d) : EvZ K (tOp (rIx K) (tVar i) tb) ρ ρ' d := fun M G H σ S Q q => by
  obtain ⟨p, vs, e, m, gp, hp, dz⟩ := S.own h
  refine ⟨.ref p, e, hb M G H σ S _ fun v G2 H2 g2 s2 dv => ?_⟩
  obtain ⟨p', us, e', m', gp', hp', dz'⟩ := s2.own h'
  have z : p = p' := by rw [e] at e'; cases e'; rfl
  subst z
  obtain ⟨w, e1, dw⟩ := atD dz' hk
  exact .inl ⟨p, us, k, w, rfl, dv.int_inv, sq_of hp', e1, q w G2 H2 g2 s2 dw⟩
/-- len -/
theorem len_lst {v : V} {H : Hp} (h : DzR K H v (.lst ds)) : LenV K v H ds.length := by
  obtain ⟨a, xs, e, hs, hz⟩ := h.lst_inv
  subst e
  exact .inl ⟨xs, hs, hz.len.symm⟩
theorem len_tup {v : V} {H : Hp} (h : DzR K H v (.tup ds)) : LenV K v H ds.length := by
  obtain ⟨a, xs, e, hs, hz⟩ := h.tup_inv
  subst e
  exact .inr ⟨xs, hs, hz.len.symm⟩
theorem ev_lenL (ha : RdZ K ta ρ ρ' (.lst ds)) : EvZ K (tCB (fun xs H Q => ∃ x n, xs = [x] ∧ LenV K x H n ∧ Q (.int n) H) (tCons ta tNil)) ρ ρ' (.int (ds.length : Int)) := fun M G H σ S Q q =>
  ha M G H σ S _ fun u G1 H1 g1 s1 du => ⟨u, ds.length, rfl, len_lst du, q _ G1 H1 g1 s1 (.int _)⟩
theorem ev_lenT (ha : RdZ K ta ρ ρ' (.tup ds)) : EvZ K (tCB (fun xs H Q => ∃ x n, xs = [x] ∧ LenV K x H n ∧ Q (.int n) H) (tCons ta tNil)) ρ ρ' (.int (ds.length : Int)) := fun M G H σ S Q q =>
  ha M G H σ S _ fun u G1 H1 g1 s1 du => ⟨u, ds.length, rfl, len_tup du, q _ G1 H1 g1 s1 (.int _)⟩
theorem ev_lenS {z : Str} (ha : EvZ K ta ρ ρ' (.str z)) (hl : z.length ≤ 100000) : EvZ K (tCB (fun xs H Q => ∃ x n, xs = [x] ∧ LenV K x H n ∧ Q (.int n) H) (tCons ta tNil)) ρ ρ' (.int (z.length : Int)) := fun M G H σ S Q q =>
  ha M G H σ S _ fun u G1 H1 g1 s1 du => ⟨u, z.length, rfl, by rw [du.str_inv]; exact ⟨sz_of hl, rfl⟩, q _ G1 H1 g1 s1 (.int _)⟩
/-- int(n) -/
theorem ev_toInt {i : Int} (ha : EvZ K ta ρ ρ' (.int i)) : EvZ K (tCB (fun xs H Q => (∃ i, xs = [.int i] ∧ Q (.int i) H) ∨ ∃ k, xs = [.bl k] ∧ Q (.int (if k then 1 else 0)) H) (tCons ta tNil)) ρ ρ' (.int i) := fun M G H σ S Q q =>
  ha M G H σ S _ fun u G1 H1 g1 s1 du => .inl ⟨i, by rw [du.int_inv], q _ G1 H1 g1 s1 (.int _)⟩
/-- all(list of truth values) -/
theorem ev_all {bs : List Bool} (ha : RdZ K ta ρ ρ' (.lst (bs.map D.bl))) : EvZ K (tCB (rAll K) (tCons ta tNil)) ρ ρ' (.bl (bs.all id)) := fun M G H σ S Q q =>
  ha M G H σ S _ fun u G1 H1 g1 s1 du => by
    obtain ⟨a, xs, e, hs, hz⟩ := du.lst_inv
    have ex := hz.bls
    subst ex
    exact ⟨a, bs, by rw [e], hs, q _ G1 H1 g1 s1 (.bl _)⟩
/-- slices of texts -/
theorem poz_none : PoZ K tNoPart ρ ρ none := fun M G H σ S Q q => q G H .refl S
theorem poz_some {i : Int} (h : EvZ K te ρ ρ' (.int i)) : PoZ K (tPart te) ρ ρ' (some i) := fun M G H σ S Q q =>
  h M G H σ S _ fun v G1 H1 g1 s1 dv => ⟨i, dv.int_inv, q G1 H1 g1 s1⟩
theorem ev_slS {tl th : TO} {z : Str} {lo hi : Option Int} (h : EvZ K te ρ ρ1 (.str z)) (h1 : PoZ K tl ρ1 ρ2 lo) (h2 : PoZ K th ρ2 ρ3 hi) (hl : z.length ≤ 100000) : EvZ K (tSl rSlS te tl th) ρ ρ3 (.str (cutS z lo hi)) := fun M G H σ S Q q =>
  h M G H σ S _ fun v G1 H1 g1 s1 dv => h1 M G1 H1 σ s1 _ fun G2 H2 g2 s2 => h2 M G2 H2 σ s2 _ fun G3 H3 g3 s3 =>
    ⟨z, dv.str_inv, sz_of hl, q _ G3 H3 ((g1.trans g2).trans g3) s3 (.str _)⟩

/-! ### arguments, displays -/
theorem ag_nil : AgZ K tNil ρ ρ [] := fun M G H σ S Q q => q [] G H .refl S .nil
theorem ag_cons {tr : TA} (h : EvZ K ta ρ ρ1 d) (hr : AgZ K tr ρ1 ρ2 ds) : AgZ K (tCons ta tr) ρ ρ2 (d :: ds) := fun M G H σ S Q q =>
  h M G H σ S _ fun v G1 H1 g1 s1 dv => hr M G1 H1 σ s1 _ fun vs G2 H2 g2 s2 dvs => q (v :: vs) G2 H2 (g1.trans g2) s2 (.cons (dv.mono g2.g) dvs)
/-- a new list: not frozen yet -/
def EvN (K : PySem.W.Frag) (te : TE) (ρ ρ' : Rho) (ds : List D) : Prop := ∀ M G H σ, Sim K M G H σ ρ → ∀ Q : VK, (∀ p vs G' H', Grow M G H G' H' → Sim K M G' H' σ ρ' → H p = none → G' p = none → H' p = some (.lst vs) → Dzs K G' vs ds → Q (.ref p) H') → te σ H Q
theorem Sim.noOwn {M : MS} {G H : Hp} {σ : L2.St} {p : Addr} (S : Sim K M G H σ ρ) (hp : H p = none) : ∀ (j : Nat) (es : MO), ρ[j]? = some (.mu es) → σ[j]? ≠ some (some (.ref p)) := fun j es h e => by
  obtain ⟨q, vs, e', m, gp, hq, dz⟩ := S.mu h
  rw [e] at e'
  cases e'
  rw [hp] at hq
  cases hq
/-- freezing a new list -/
theorem freezeN {M : MS} {G H G' H' : Hp} {σ : L2.St} {p : Addr} {vs : List V} (g : Grow M G H G' H') (s : Sim K M G' H' σ ρ') (hp : H p = none) (gp : G' p = none) (h' : H' p = some (.lst vs)) (hd : Dzs K G' vs ds)
    (hn : ∀ (j : Nat) (es : MO), ρ'[j]? = some (.mu es) → σ[j]? ≠ some (some (.ref p))) :
    Grow M G H (upd G' p (.lst vs)) H' ∧ Sim K M (upd G' p (.lst vs)) H' σ ρ' ∧ Dz K (upd G' p (.lst vs)) (.ref p) (.lst ds) := by
  have eg : Ex G' (upd G' p (.lst vs)) := Ex.new gp
  refine ⟨⟨g.g.trans eg, g.k, fun a m n z => ?_, g.d⟩, s.grow (fun a o e => ?_) eg fun q es i e1 e2 => ?_, .lst (sq_of upd_same) (hd.mono eg)⟩
  · have q : a ≠ p := fun z => by subst z; exact n hp
    rw [upd_ne q]; exact g.n a m n z
  · by_cases q : a = p
    · subst q; rw [upd_same] at e; cases e; exact h'
    · rw [upd_ne q] at e; exact s.sub a o e
  · obtain ⟨q', us, e', m, gq, hq, dz⟩ := s.mu e1
    rw [e2] at e'
    cases e'
    have ne : q ≠ p := fun z => by subst z; exact hn i es e1 e2
    exact ⟨rfl, by rw [upd_ne ne]; exact gq⟩
theorem EvN.noOwn {M : MS} {G H G' H' : Hp} {σ : L2.St} {p : Addr} {vs : List V} (S : Sim K M G H σ ρ) (s : Sim K M G' H' σ ρ') (hp : H p = none) (hρ : ∀ (j : Nat) (es : MO), ρ'[j]? = some (.mu es) → ∃ fs, ρ[j]? = some (.mu fs)) :
    ∀ (j : Nat) (es : MO), ρ'[j]? = some (.mu es) → σ[j]? ≠ some (some (.ref p)) := fun j es h => by
  obtain ⟨fs, e⟩ := hρ j es h
  exact S.noOwn hp j fs e
/-- the own slots of ρ' are own in ρ -/
def OwnIn (ρ' ρ : Rho) : Prop := ∀ (j : Nat) (es : MO), ρ'[j]? = some (.mu es) → ∃ fs, ρ[j]? = some (.mu fs)
theorem OwnIn.refl : OwnIn ρ ρ := fun _ es h => ⟨es, h⟩
theorem OwnIn.set {i : Nat} {fs gs : MO} (h : ρ[i]? = some (.mu fs)) : OwnIn (ρ.set i (.mu gs)) ρ := fun j es e => by
  rcases get_set e with ⟨ej, _, _⟩ | ⟨_, e⟩
  · subst ej; exact ⟨fs, h⟩
  · exact ⟨es, e⟩
theorem EvN.ev (h : EvN K te ρ ρ' ds) (ho : OwnIn ρ' ρ) : EvZ K te ρ ρ' (.lst ds) := fun M G H σ S Q q => h M G H σ S Q fun p vs G' H' g s hp gp h' hd => by
  obtain ⟨a, b, c⟩ := freezeN g s hp gp h' hd (EvN.noOwn (vs := vs) S s hp ho)
  exact q _ _ _ a b c
theorem EvN.rd (h : EvN K te ρ ρ' ds) : RdZ K te ρ ρ' (.lst ds) := fun M G H σ S Q q => h M G H σ S Q fun p vs G' H' g s hp gp h' hd => q _ _ _ g s (.dz (.lst (sq_of h') (hd.mono s.sub)))
theorem ev_tup {tx : TA} (h : AgZ K tx ρ ρ' ds) (hl : ds.length ≤ 100000) : EvZ K (tTup tx) ρ ρ' (.tup ds) := fun M G H σ S Q q =>
  h M G H σ S _ fun vs G1 H1 g1 s1 dv => ⟨by rw [dv.len]; exact sz_of hl, fun p hp => q _ _ _ (g1.trans (.new hp s1.sub)) (s1.new hp) (.tup upd_same (dv.mono (Ex.new (fresh_back s1.sub hp))))⟩
theorem en_lst {tx : TA} (h : AgZ K tx ρ ρ' ds) (hl : ds.length ≤ 100000) : EvN K (tLst tx) ρ ρ' ds := fun M G H σ S Q q =>
  h M G H σ S _ fun vs G1 H1 g1 s1 dv => ⟨by rw [dv.len]; exact sz_of hl, fun p hp => q p vs G1 _ (g1.trans (.newO hp)) (s1.newO hp) (g1.d p hp) (fresh_back s1.sub hp) upd_same dv⟩
end Z

set_option Elab.async false
set_option linter.all false
set_option maxRecDepth 100000
set_option maxHeartbeats 2000000
/-! ZStm: tests, targets, walks, comprehensions, statements, calls. -/
namespace Z
open PySem L2
open Evl (Ex Ex.refl Ex.trans Ex.new ex_rd ex_l ex_t sq_of st_of fresh_back sz_of sz_lt)
variable {K : PySem.W.Frag} {ρ ρ' ρ1 ρ2 ρ3 : Rho} {ta tb tc te tl : TE} {tt tu : TT} {d e x y : D} {ds es xs ys rs : List D} {b c : Bool}

/-! ### tests -/
theorem ts_test (h : EvZ K te ρ ρ' (.bl b)) : TsZ K (tTest te) ρ ρ' b := fun M G H σ S Q q => h M G H σ S _ fun v G1 H1 g1 s1 dv => ⟨b, dv.bl_inv, q G1 H1 g1 s1⟩
theorem ts_B (h : EvZ K te ρ ρ' (.bl b)) : TsZ K (tB te) ρ ρ' b := fun M G H σ S Q q => h M G H σ S _ fun v G1 H1 g1 s1 dv => ⟨b, dv.bl_inv, q G1 H1 g1 s1⟩
theorem ts_not (h : TsZ K tt ρ ρ' b) : TsZ K (tNot tt) ρ ρ' (!b) := fun M G H σ S Q q => h M G H σ S _ fun G1 H1 g1 s1 => q G1 H1 g1 s1
theorem ts_is (h : TsZ K tt ρ ρ' b) (q : b = c) : TsZ K tt ρ ρ' c := by subst q; exact h
theorem ts_andT (h : TsZ K tt ρ ρ1 true) (k : TsZ K tu ρ1 ρ2 b) : TsZ K (tAnd tt tu) ρ ρ2 b := fun M G H σ S Q q => h M G H σ S _ fun G1 H1 g1 s1 => by
  show tu σ H1 Q
  exact k M G1 H1 σ s1 _ fun G2 H2 g2 s2 => q G2 H2 (g1.trans g2) s2
theorem ts_andF (h : TsZ K tt ρ ρ1 false) : TsZ K (tAnd tt tu) ρ ρ1 false := fun M G H σ S Q q => h M G H σ S _ fun G1 H1 g1 s1 => q G1 H1 g1 s1
theorem ts_and (h : TsZ K tt ρ ρ b) (k : b = true → TsZ K tu ρ ρ c) : TsZ K (tAnd tt tu) ρ ρ (b && c) := by
  cases b with
  | true => exact ts_andT h (k rfl)
  | false => exact ts_andF h
theorem ts_orT (h : TsZ K tt ρ ρ1 true) : TsZ K (tOr tt tu) ρ ρ1 true := fun M G H σ S Q q => h M G H σ S _ fun G1 H1 g1 s1 => q G1 H1 g1 s1
theorem ts_orF (h : TsZ K tt ρ ρ1 false) (k : TsZ K tu ρ1 ρ2 b) : TsZ K (tOr tt tu) ρ ρ2 b := fun M G H σ S Q q => h M G H σ S _ fun G1 H1 g1 s1 => by
  show tu σ H1 Q
  exact k M G1 H1 σ s1 _ fun G2 H2 g2 s2 => q G2 H2 (g1.trans g2) s2
theorem ts_or (h : TsZ K tt ρ ρ b) (k : b = false → TsZ K tu ρ ρ c) : TsZ K (tOr tt tu) ρ ρ (b || c) := by
  cases b with
  | true => exact ts_orT h
  | false => exact ts_orF h (k rfl)
theorem ts_yes : TsZ K tYes ρ ρ true := fun M G H σ S Q q => q G H .refl S
/-- a chain a op b op' c; the parts are frozen -/
theorem ts_chain {r r' : R2} {d1 d2 d3 : D} (ha : EvZ K ta ρ ρ1 d1) (hb : EvZ K tb ρ1 ρ2 d2) (hc : b = true → EvZ K tc ρ2 ρ2 d3)
    (hr : ∀ (u v : V) G H (Q : VK), Ex G H → Dz K G u d1 → Dz K G v d2 → Q (.bl b) H → r u v H Q) (hr' : b = true → ∀ (u v : V) G H (Q : VK), Ex G H → Dz K G u d2 → Dz K G v d3 → Q (.bl c) H → r' u v H Q) :
    EvZ K (tChain r r' ta tb tc) ρ ρ2 (.bl (b && c)) := fun M G H σ S Q q =>
  ha M G H σ S _ fun u G1 H1 g1 s1 du => hb M G1 H1 σ s1 _ fun v G2 H2 g2 s2 dv => hr u v G2 H2 _ s2.sub (du.mono g2.g) dv ⟨b, rfl, by
    cases b with
    | true =>
      rw [if_pos rfl]
      exact hc rfl M G2 H2 σ s2 _ fun w G3 H3 g3 s3 dw => hr' rfl v w G3 H3 _ s3.sub (dv.mono g3.g) dw (q _ G3 H3 ((g1.trans g2).trans g3) s3 (.bl c))
    | false =>
      rw [if_neg Bool.false_ne_true]
      exact q _ G2 H2 (g1.trans g2) s2 (.bl false)⟩
theorem ev_chainI {p p' : Int → Int → Bool} {i j k : Int} (ha : EvZ K ta ρ ρ1 (.int i)) (hb : EvZ K tb ρ1 ρ2 (.int j)) (hc : EvZ K tc ρ2 ρ2 (.int k)) :
    EvZ K (tChain (rI0 fun i j => .bl (p i j)) (rI0 fun i j => .bl (p' i j)) ta tb tc) ρ ρ2 (.bl (p i j && p' j k)) :=
  ts_chain ha hb (fun _ => hc) (fun u v G H Q _ du dv q => ⟨i, j, du.int_inv, dv.int_inv, q⟩) (fun _ u v G H Q _ du dv q => ⟨j, k, du.int_inv, dv.int_inv, q⟩)
theorem ev_ifT (h : TsZ K tt ρ ρ1 true) (ha : EvZ K ta ρ1 ρ2 d) : EvZ K (tIf tt ta tb) ρ ρ2 d := fun M G H σ S Q q => h M G H σ S _ fun G1 H1 g1 s1 => by
  rw [if_pos rfl]
  exact ha M G1 H1 σ s1 _ fun v G2 H2 g2 s2 dv => q v G2 H2 (g1.trans g2) s2 dv
theorem ev_ifF (h : TsZ K tt ρ ρ1 false) (ha : EvZ K tb ρ1 ρ2 d) : EvZ K (tIf tt ta tb) ρ ρ2 d := fun M G H σ S Q q => h M G H σ S _ fun G1 H1 g1 s1 => by
  rw [if_neg Bool.false_ne_true]
  exact ha M G1 H1 σ s1 _ fun v G2 H2 g2 s2 dv => q v G2 H2 (g1.trans g2) s2 dv
theorem ev_andV (h : EvZ K ta ρ ρ1 (.bl b)) (k : b = true → EvZ K tb ρ1 ρ1 (.bl c)) : EvZ K (tAndV ta tb) ρ ρ1 (.bl (b && c)) := fun M G H σ S Q q => h M G H σ S _ fun v G1 H1 g1 s1 dv => ⟨b, dv.bl_inv, by
  cases b with
  | true =>
    rw [if_pos rfl]
    exact k rfl M G1 H1 σ s1 _ fun v G2 H2 g2 s2 dv => q v G2 H2 (g1.trans g2) s2 dv
  | false =>
    rw [if_neg Bool.false_ne_true]
    exact q _ G1 H1 g1 s1 (.bl false)⟩
theorem ev_orV (h : EvZ K ta ρ ρ1 (.bl b)) (k : b = false → EvZ K tb ρ1 ρ1 (.bl c)) : EvZ K (tOrV ta tb) ρ ρ1 (.bl (b || c)) := fun M G H σ S Q q => h M G H σ S _ fun v G1 H1 g1 s1 dv => ⟨b, dv.bl_inv, by
  cases b with
  | true =>
    rw [if_pos rfl]
    exact q _ G1 H1 g1 s1 (.bl true)
  | false =>
    rw [if_neg Bool.false_ne_true]
    exact k rfl M G1 H1 σ s1 _ fun v G2 H2 g2 s2 dv => q v G2 H2 (g1.trans g2) s2 dv⟩
theorem ev_notV (h : EvZ K ta ρ ρ1 (.bl b)) : EvZ K (tNotV ta) ρ ρ1 (.bl (!b)) := fun M G H σ S Q q => h M G H σ S _ fun v G1 H1 g1 s1 dv => ⟨b, dv.bl_inv, q _ G1 H1 g1 s1 (.bl _)⟩

/-! ### targets -/
/-- storing frozen data: the slots of A change -/
def TgZ (K : PySem.W.Frag) (g : TG) (A : List Nat) (d : D) (ρ ρ' : Rho) : Prop := ∀ M G H σ v, Sim K M G H σ ρ → Dz K G v d → ∀ Q : L2.St → Hp → Prop, (∀ σ', σ'.length = σ.length → (∀ i, i ∉ A → σ'[i]? = σ[i]?) → Sim K M G H σ' ρ' → Q σ' H) → g v σ H Q
theorem tg_name {i : Nat} : TgZ K (gName i) [i] d ρ (ρ.set i (.fr d)) := fun M G H σ v S dv Q q => q _ (List.length_set ..) (fun j hj => by
  have e : i ≠ j := fun z => hj (by rw [z]; exact List.mem_cons_self)
  rw [List.getElem?_set_ne e]) (S.setF dv)
theorem keep_of {S A : List Nat} {σ σ' : L2.St} (h : ∀ i, i ∉ A → σ'[i]? = σ[i]?) (hd : ∀ i ∈ A, i ∉ S) : Keep S σ σ' := fun i hi => h i fun z => hd i z hi

/-! ### walks -/
/-- J gives the items ds, one behind the other, while G stands -/
def Walks (K : PySem.W.Frag) (G0 : Hp) (J : It) (ds : List D) : Prop := ∀ G H, Ex G0 G → Ex G H →
  (∀ (i : Nat) (d : D), ds[i]? = some d → J.go i H ∧ ∀ x H', J.yld i H x H' → ∃ G', Grow (fun _ => False) G H G' H' ∧ Ex G' H' ∧ Dz K G' x d) ∧ J.stop ds.length H
def ItZ (K : PySem.W.Frag) (wi : TI) (ρ ρ' : Rho) (ds : List D) : Prop := ∀ M G H σ, Sim K M G H σ ρ → ∀ R : It → Hp → Prop, (∀ J G' H', Grow M G H G' H' → Sim K M G' H' σ ρ' → Walks K G' J ds → R J H') → wi σ H R
theorem walks_list {G : Hp} {a : Addr} {vs : List V} (h : SqL K G a vs) (hd : Dzs K G vs ds) : Walks K G (Itl K a) ds := fun G1 H e s => by
  have hH := ex_l (e.trans s) h
  refine ⟨fun i d hi => ?_, ⟨vs, hH, by rw [hd.len]; exact Nat.le_refl _⟩⟩
  obtain ⟨v, ev, dv⟩ := hd.get hi
  refine ⟨⟨vs, v, hH, ev⟩, fun x H' hy => ?_⟩
  obtain ⟨e1, e2⟩ := hy
  have q := e2 vs hH
  rw [ev] at q
  cases q
  subst e1
  exact ⟨G1, .refl, s, dv.mono e⟩
theorem walks_tup {G : Hp} {a : Addr} {vs : List V} (h : SqT K G a vs) (hd : Dzs K G vs ds) : Walks K G (Itt K a) ds := fun G1 H e s => by
  have hH := ex_t (e.trans s) h
  refine ⟨fun i d hi => ?_, ⟨vs, hH, by rw [hd.len]; exact Nat.le_refl _⟩⟩
  obtain ⟨v, ev, dv⟩ := hd.get hi
  refine ⟨⟨vs, v, hH, ev⟩, fun x H' hy => ?_⟩
  obtain ⟨e1, e2⟩ := hy
  have q := e2 vs hH
  rw [ev] at q
  cases q
  subst e1
  exact ⟨G1, .refl, s, dv.mono e⟩
theorem it_list (h : EvZ K tl ρ ρ' (.lst ds)) : ItZ K (iList K tl) ρ ρ' ds := fun M G H σ S R q => h M G H σ S _ fun v G1 H1 g1 s1 dv => by
  obtain ⟨a, vs, e, hs, hz⟩ := dv.lst_inv
  exact ⟨a, e, ⟨vs, ex_l s1.sub hs⟩, q _ G1 H1 g1 s1 (walks_list hs hz)⟩
theorem it_tup (h : EvZ K tl ρ ρ' (.tup ds)) : ItZ K (iTup K tl) ρ ρ' ds := fun M G H σ S R q => h M G H σ S _ fun v G1 H1 g1 s1 dv => by
  obtain ⟨a, vs, e, hs, hz⟩ := dv.tup_inv
  exact ⟨a, e, ⟨vs, ex_t s1.sub hs⟩, q _ G1 H1 g1 s1 (walks_tup hs hz)⟩
/-- the signs of a text -/
def signsD (z : Str) : List D := z.cps.toList.map fun c => .str ⟨#[c]⟩
theorem it_str {z : Str} (h : EvZ K te ρ ρ' (.str z)) : ItZ K (iStr te) ρ ρ' (signsD z) := fun M G H σ S R q => h M G H σ S _ fun v G1 H1 g1 s1 dv => by
  refine ⟨z, dv.str_inv, q _ G1 H1 g1 s1 fun G2 H2 e s => ⟨fun i d hi => ?_, ?_⟩⟩
  · unfold signsD at hi
    rw [List.getElem?_map] at hi
    cases ec : z.cps.toList[i]? with
    | none => rw [ec] at hi; cases hi
    | some c =>
      rw [ec] at hi
      cases hi
      have hl := (List.getElem?_eq_some_iff.mp ec).1
      refine ⟨by show i < z.cps.size; simpa using hl, fun x H' hy => ?_⟩
      obtain ⟨e1, c', e2, e3⟩ := hy
      subst e1
      have q : c' = c := by
        have z1 : z.cps.toList[i]? = some c' := by rw [← e2]; simp
        rw [ec] at z1
        cases z1
        rfl
      subst q
      rw [e3]
      exact ⟨G2, .refl, s, .str _⟩
  · show z.cps.size ≤ (signsD z).length
    unfold signsD
    simp
/-- 0 .. n - 1 -/
def rangeD (lo : Int) (n : Nat) : List D := (List.range n).map fun (i : Nat) => D.int (lo + (i : Int))
theorem rangeD_len {lo : Int} {n : Nat} : (rangeD lo n).length = n := by unfold rangeD; rw [List.length_map, List.length_range]
theorem walks_range {G : Hp} {lo : Int} {n : Nat} : Walks K G (Itr lo n) (rangeD lo n) := fun G1 H e s => by
  refine ⟨fun i d hi => ?_, by rw [rangeD_len]; exact Nat.le_refl _⟩
  unfold rangeD at hi
  rw [List.getElem?_map] at hi
  cases ec : (List.range n)[i]? with
  | none => rw [ec] at hi; cases hi
  | some c =>
    rw [ec] at hi
    cases hi
    obtain ⟨hl, ee⟩ := List.getElem?_eq_some_iff.mp ec
    rw [List.length_range] at hl
    rw [List.getElem_range] at ee
    subst ee
    refine ⟨hl, fun x H' hy => ?_⟩
    obtain ⟨e1, e2⟩ := hy
    subst e1
    rw [e2]
    exact ⟨G1, .refl, s, .int _⟩
theorem it_range1 {tx : TA} {n : Int} (h : AgZ K tx ρ ρ' [.int n]) (hn : -(2 ^ 62) ≤ n ∧ n < 2 ^ 62) : ItZ K (iRng1 tx) ρ ρ' (rangeD 0 n.toNat) := fun M G H σ S R q => h M G H σ S _ fun vs G1 H1 g1 s1 dv => by
  cases dv with
  | cons h1 h2 =>
    cases h2
    exact ⟨n, by rw [h1.int_inv], hn.1, hn.2, q _ G1 H1 g1 s1 walks_range⟩
/-! ### comprehensions -/
/-- the comprehension's own slots forgotten -/
def wipeR (ρ : Rho) : List Nat → Rho
  | [] => ρ
  | v :: vs => (wipeR ρ vs).set v .no
theorem wipeR_len (ρ : Rho) : ∀ vs, (wipeR ρ vs).length = ρ.length
  | [] => rfl
  | v :: vs => by unfold wipeR; rw [List.length_set, wipeR_len ρ vs]
theorem wipeR_get {i : Nat} {c : Cell} (hc : c ≠ .no) : ∀ {vs : List Nat}, (wipeR ρ vs)[i]? = some c → ρ[i]? = some c ∧ i ∉ vs
  | [], h => ⟨h, by simp⟩
  | v :: vs, h => by
    unfold wipeR at h
    rcases get_set h with ⟨_, e, _⟩ | ⟨ne, h⟩
    · exact absurd e hc
    · obtain ⟨a, b⟩ := wipeR_get hc h
      exact ⟨a, fun z => by
        rcases List.mem_cons.mp z with z | z
        · exact ne z.symm
        · exact b z⟩
theorem wipe_get {σ : L2.St} {i : Nat} : ∀ {vs : List Nat}, i ∉ vs → (wipe σ vs)[i]? = σ[i]?
  | [], _ => rfl
  | v :: vs, h => by
    unfold wipe
    rw [List.getElem?_set_ne (fun z => h (by rw [z]; exact List.mem_cons_self)), wipe_get fun z => h (List.mem_cons_of_mem _ z)]
theorem wipe_in {σ σ' : L2.St} {i : Nat} (hl : σ'.length = σ.length) : ∀ {vs : List Nat}, i ∈ vs → (wipe σ' vs)[i]? = (wipe σ vs)[i]?
  | v :: vs, h => by
    unfold wipe
    by_cases e : v = i
    · subst e
      by_cases hv : v < σ.length
      · rw [List.getElem?_set_self (by rw [wipe_length, hl]; exact hv), List.getElem?_set_self (by rw [wipe_length]; exact hv)]
      · rw [List.getElem?_eq_none (by rw [List.length_set, wipe_length, hl]; omega), List.getElem?_eq_none (by rw [List.length_set, wipe_length]; omega)]
    · rw [List.getElem?_set_ne e, List.getElem?_set_ne e]
      exact wipe_in hl (by
        rcases List.mem_cons.mp h with h | h
        · exact absurd h.symm e
        · exact h)
theorem wipe_eq {σ σ' : L2.St} {vs : List Nat} (hl : σ'.length = σ.length) (h : ∀ i, i ∉ vs → σ'[i]? = σ[i]?) : wipe σ' vs = wipe σ vs := by
  apply List.ext_getElem?
  intro i
  by_cases e : i ∈ vs
  · exact wipe_in hl e
  · rw [wipe_get e, wipe_get e, h i e]
theorem Sim.wipe {M : MS} {G H : Hp} {σ σ' : L2.St} {vs : List Nat} (S : Sim K M G H σ ρ) (hl : σ'.length = σ.length) (h : ∀ i, i ∉ vs → σ'[i]? = σ[i]?) : Sim K M G H σ' (wipeR ρ vs) where
  len := by rw [wipeR_len, hl]; exact S.len
  sub := S.sub
  fr := fun {i d} e => by
    obtain ⟨a, b⟩ := wipeR_get (by simp) e
    obtain ⟨v, e1, e2⟩ := S.fr a
    exact ⟨v, by rw [h i b]; exact e1, e2⟩
  mu := fun {i d} e => by
    obtain ⟨a, b⟩ := wipeR_get (by simp) e
    obtain ⟨p, vs, e1, e2⟩ := S.mu a
    exact ⟨p, vs, by rw [h i b]; exact e1, e2⟩
  apart := fun {i j ds es p} ne e1 e2 e3 e4 => by
    obtain ⟨a, b⟩ := wipeR_get (by simp) e1
    obtain ⟨a', b'⟩ := wipeR_get (by simp) e2
    rw [h i b] at e3
    rw [h j b'] at e4
    exact S.apart ne a a' e3 e4
/-- the items ds, one turn behind the other, give rs -/
inductive CompZ (K : PySem.W.Frag) (g : TG) (tt : TT) (te : TE) (vs A : List Nat) : List D → Rho → List D → Rho → Prop
  | nil {ρ : Rho} : CompZ K g tt te vs A [] ρ [] ρ
  | yes {ρ ρ1 ρ2 ρ3 ρ4 : Rho} {d r : D} {ds rs : List D} : TgZ K g A d ρ ρ1 → TsZ K tt ρ1 ρ2 true → EvZ K te ρ2 ρ3 r → CompZ K g tt te vs A ds (wipeR ρ3 vs) rs ρ4 → CompZ K g tt te vs A (d :: ds) ρ (r :: rs) ρ4
  | no {ρ ρ1 ρ2 ρ4 : Rho} {d : D} {ds rs : List D} : TgZ K g A d ρ ρ1 → TsZ K tt ρ1 ρ2 false → CompZ K g tt te vs A ds (wipeR ρ2 vs) rs ρ4 → CompZ K g tt te vs A (d :: ds) ρ rs ρ4
theorem CompZ.le {g : TG} {vs A : List Nat} (h : CompZ K g tt te vs A ds ρ rs ρ') : rs.length ≤ ds.length := by
  induction h with
  | nil => exact Nat.le_refl _
  | yes _ _ _ _ ih => exact Nat.succ_le_succ ih
  | no _ _ _ ih => exact Nat.le_succ_of_le ih
/-- what stands between two turns: rd is made (at D), rl is to come -/
structure CompW (K : PySem.W.Frag) (g : TG) (tt : TT) (te : TE) (vs A : List Nat) (M : MS) (G1 H1 : Hp) (Dl : Addr) (σ : L2.St) (ds rs : List D) (ρ' : Rho) (i : Nat) (H : Hp) : Prop where
  ex : ∃ G ρi rd rl vd, Grow (fun a => M a ∨ a = Dl) G1 H1 G H ∧ Sim K (fun a => M a ∧ a ≠ Dl) G H (L2.wipe σ vs) ρi ∧ CompZ K g tt te vs A (ds.drop i) ρi rl ρ' ∧ rd ++ rl = rs ∧ rd.length ≤ i ∧ G Dl = none ∧ H Dl = some (.lst vd) ∧ Dzs K G vd rd
theorem sim_unwipe {M : MS} {G H : Hp} {σ : L2.St} {vs : List Nat} (S : Sim K M G H (L2.wipe σ vs) ρ) : Sim K M G H σ ρ where
  len := by rw [← S.len, wipe_length]
  sub := S.sub
  fr := fun {j d} e => by
    obtain ⟨v, e1, e2⟩ := S.fr e
    obtain ⟨a, b⟩ := wipe_some e1
    exact ⟨v, a, e2⟩
  mu := fun {j d} e => by
    obtain ⟨p, us, e1, e2⟩ := S.mu e
    obtain ⟨a, b⟩ := wipe_some e1
    exact ⟨p, us, a, e2⟩
  apart := fun {j k ds es p} ne e1 e2 e3 e4 => by
    obtain ⟨p1, us1, f1, _⟩ := S.mu e1
    obtain ⟨p2, us2, f2, _⟩ := S.mu e2
    obtain ⟨a1, b1⟩ := wipe_some f1
    obtain ⟨a2, b2⟩ := wipe_some f2
    refine S.apart ne e1 e2 (p := p) ?_ ?_
    · rw [wipe_get b1]; exact e3
    · rw [wipe_get b2]; exact e4
/-- an object that is no own list's and is not frozen changes -/
theorem Sim.other {M : MS} {G H : Hp} {σ : L2.St} {p : Addr} {o : HO} (S : Sim K M G H σ ρ) (gp : G p = none) (hn : ∀ (j : Nat) (es : MO), ρ[j]? = some (.mu es) → σ[j]? ≠ some (some (.ref p))) : Sim K M G (upd H p o) σ ρ :=
  S.grow (fun a u e => by rw [upd_ne (ne_of_none e gp)]; exact S.sub a u e) (Ex.refl _) fun q es i e1 e2 => by
    obtain ⟨q', us, e', m, gq, hq, dz⟩ := S.mu e1
    rw [e2] at e'
    cases e'
    exact ⟨upd_ne fun z => by subst z; exact hn i es e1 e2, gq⟩
theorem Sim.nin {M : MS} {G H : Hp} {σ : L2.St} {p : Addr} (S : Sim K M G H σ ρ) (h : ¬ M p) : ∀ (j : Nat) (es : MO), ρ[j]? = some (.mu es) → σ[j]? ≠ some (some (.ref p)) := fun j es e1 e2 => by
  obtain ⟨q', us, e', m, gq, hq, dz⟩ := S.mu e1
  rw [e2] at e'
  cases e'
  exact h m
theorem en_lc {wi : TI} {g : TG} {vs A : List Nat} (hi : ItZ K wi ρ ρ1 ds) (hc : CompZ K g tt te vs A ds (wipeR ρ1 vs) rs ρ') (hA : ∀ i ∈ A, i ∈ vs) (hl : ds.length ≤ 99999) : EvN K (tLc wi g tt te vs) ρ ρ' rs := fun M G H σ S Q q =>
  hi M G H σ S _ fun J G1 H1 g1 s1 wk D hD => by
    have hD0 := g1.d D hD
    have s1' : Sim K M G1 H1 (L2.wipe σ vs) (wipeR ρ1 vs) := s1.wipe (wipe_length σ vs) fun i h => wipe_get h
    refine ⟨fun i m Hh => i ≤ ds.length ∧ m = ds.length - i ∧ CompW K g tt te vs A M G1 H1 D σ ds rs ρ' i Hh, ⟨ds.length, Nat.zero_le _, rfl, ⟨G1, wipeR ρ1 vs, [], rs, [], .newO hD, ?_, hc, rfl, Nat.le_refl _, fresh_back s1.sub hD, upd_same, .nil⟩⟩, ?_⟩
    · exact (s1'.newO hD).chMo fun p es i e1 e2 => by
        obtain ⟨p', us, e', m, gp, hp, dz⟩ := s1'.mu e1
        rw [e2] at e'
        cases e'
        exact ⟨m, fun z => by subst z; rw [hD] at hp; cases hp⟩
    · rintro i m Hi ⟨hle, rfl, ⟨Gi, ρi, rd, rl, vd, gi, si, ci, er, hrd, gD, hiD, dD⟩⟩
      obtain ⟨w1, w2⟩ := wk Gi Hi gi.g si.sub
      cases hit : ds[i]? with
      | none =>
        have hge : ds.length ≤ i := List.getElem?_eq_none_iff.mp hit
        have ei : i = ds.length := Nat.le_antisymm hle hge
        subst ei
        refine .inl ⟨w2, ?_⟩
        rw [List.drop_eq_nil_of_le hge] at ci
        cases ci
        rw [List.append_nil] at er
        subst er
        have gg : Grow M G1 H1 Gi Hi := gi.wk fun a e z => by
          rcases z with z | z
          · exact z
          · subst z; exact absurd hD e
        exact q D vd Gi Hi (g1.trans gg) (sim_unwipe (si.chM fun a _ z => z.1)) hD0 gD hiD dD
      | some d =>
        obtain ⟨hlt, ed⟩ := List.getElem?_eq_some_iff.mp hit
        obtain ⟨hgo, hy⟩ := w1 i d hit
        rw [List.drop_eq_getElem_cons hlt, ed] at ci
        refine .inr ⟨hgo, CompW K g tt te vs A M G1 H1 D σ ds rs ρ' (i + 1), fun H' w => ⟨ds.length - (i + 1), by omega, by omega, rfl, w⟩, fun x H' yl => ?_⟩
        obtain ⟨G2, g2, s2, dx⟩ := hy x H' yl
        have S2 : Sim K (fun a => M a ∧ a ≠ D) G2 H' (L2.wipe σ vs) ρi := si.grow s2 g2.g fun p es j e1 e2 => by
          obtain ⟨p', us, e', m, gp, hp, dz⟩ := si.mu e1
          rw [e2] at e'
          cases e'
          exact ⟨(g2.k p _ (fun z => z) hp).trans hp.symm, g2.n p (fun z => z) (by rw [hp]; simp) gp⟩
        have hD2 : H' D = some (.lst vd) := g2.k D _ (fun z => z) hiD
        have gD2 : G2 D = none := g2.n D (fun z => z) (by rw [hiD]; simp) gD
        have gi2 : Grow (fun a => M a ∨ a = D) G1 H1 G2 H' := gi.trans (g2.wk fun a _ z => z.elim)
        have wkM : ∀ {Ga Ha Gb Hb : Hp}, Grow (fun a => M a ∧ a ≠ D) Ga Ha Gb Hb → Grow (fun a => M a ∨ a = D) Ga Ha Gb Hb := fun h => h.wk fun a _ z => .inl z.1
        cases ci with
        | yes t1 t2 t3 t4 =>
          rename_i ρa ρb ρc r rl'
          refine t1 _ G2 H' _ x S2 dx _ fun σa la ka Sa => ⟨?_, ?_⟩
          · refine (wipe_eq (σ := L2.wipe σ vs) (vs := vs) la fun j hj => ka j fun z => hj (hA j z)).trans (wipe_eq (wipe_length σ vs) fun j hj => wipe_get hj)
          · refine t2 _ G2 H' _ Sa _ fun G3 H3 g3 s3 => ?_
            rw [if_pos rfl]
            refine t3 _ G3 H3 _ s3 _ fun v G4 H4 g4 s4 dv => ?_
            have g34 := g3.trans g4
            have hD4 : H4 D = some (.lst vd) := g34.k D _ (fun z => z.2 rfl) hD2
            have gD4 : G4 D = none := g34.n D (fun z => z.2 rfl) (by rw [hD2]; simp) gD2
            have dd : Dzs K G4 (vd ++ [v]) (rd ++ [r]) := (dD.mono (g2.g.trans g34.g)).snoc dv
            have s5 : Sim K (fun a => M a ∧ a ≠ D) G4 (upd H4 D (.lst (vd ++ [v]))) σa ρc := s4.other gD4 (s4.nin fun z => z.2 rfl)
            have ga := gi2.trans (wkM g34)
            refine ⟨vd, hD4, sz_lt (by rw [dD.len]; omega), ⟨G4, wipeR ρc vs, rd ++ [r], rl', vd ++ [v], ?_, ?_, t4, by rw [List.append_assoc]; exact er, by rw [List.length_append]; show rd.length + 1 ≤ i + 1; omega, gD4, upd_same, dd⟩⟩
            · refine ⟨ga.g, fun a o m e => ?_, ga.n, fun a e => ga.d a (upd_none e)⟩
              rw [upd_ne fun z => m (.inr z)]
              exact ga.k a o m e
            · exact s5.wipe (by rw [la, wipe_length]) fun j hj => by rw [ka j fun z => hj (hA j z)]
        | no t1 t2 t4 =>
          rename_i ρa ρb
          refine t1 _ G2 H' _ x S2 dx _ fun σa la ka Sa => ⟨?_, ?_⟩
          · refine (wipe_eq (σ := L2.wipe σ vs) (vs := vs) la fun j hj => ka j fun z => hj (hA j z)).trans (wipe_eq (wipe_length σ vs) fun j hj => wipe_get hj)
          · refine t2 _ G2 H' _ Sa _ fun G3 H3 g3 s3 => ?_
            rw [if_neg Bool.false_ne_true]
            refine ⟨G3, wipeR ρb vs, rd, rl, vd, gi2.trans (wkM g3), ?_, t4, er, Nat.le_succ_of_le hrd, g3.n D (fun z => z.2 rfl) (by rw [hD2]; simp) gD2, g3.k D _ (fun z => z.2 rfl) hD2, dD.mono (g2.g.trans g3.g)⟩
            exact s3.wipe (by rw [la, wipe_length]) fun j hj => by rw [ka j fun z => hj (hA j z)]
end Z

set_option Elab.async false
set_option linter.all false
set_option maxRecDepth 100000
set_option maxHeartbeats 2000000
/-! ZDef: statements, loops, a def's promise, calls. -/
namespace Z
open PySem L2
open Evl (Ex Ex.refl Ex.trans Ex.new ex_rd ex_l ex_t sq_of st_of fresh_back sz_of sz_lt)
variable {K : PySem.W.Frag} {S : List Nat} {ρ ρ' ρ1 ρ2 ρ3 : Rho} {ta tb tc te tl : TE} {tt tu : TT} {ts us : TS} {g : TG} {A : List Nat} {d e x y : D} {ds es xs ys rs : List D} {b c : Bool} {o : Out}

/-! ### statements -/
theorem ex_next : ExZ K S tNext ρ (.nx ρ) := fun M G H σ E f s q => q G H σ .refl .refl s
theorem ex_seq (h : ExZ K S ts ρ (.nx ρ1)) (k : ExZ K S us ρ1 o) : ExZ K S (tSeq ts us) ρ o := fun M G H σ E f s q =>
  h M G H σ { E with nx := us E } f s fun G1 H1 σ1 g1 k1 s1 => k M G1 H1 σ1 E (f.grow g1) s1 (q.go g1 k1)
/-- the first statement leaves -/
theorem ex_seqR {cl : Cell} (h : ExZ K S ts ρ (.rt ρ1 cl)) : ExZ K S (tSeq ts us) ρ (.rt ρ1 cl) := fun M G H σ E f s q => h M G H σ { E with nx := us E } f s q
theorem ex_ifT (h : TsZ K tt ρ ρ1 true) (k : ExZ K S ts ρ1 o) : ExZ K S (tIfS tt ts us) ρ o := fun M G H σ E f s q => h M G H σ s _ fun G1 H1 g1 s1 => by
  rw [if_pos rfl]
  exact k M G1 H1 σ E (f.grow g1) s1 (q.go g1 .refl)
theorem ex_ifF (h : TsZ K tt ρ ρ1 false) (k : ExZ K S us ρ1 o) : ExZ K S (tIfS tt ts us) ρ o := fun M G H σ E f s q => h M G H σ s _ fun G1 H1 g1 s1 => by
  rw [if_neg Bool.false_ne_true]
  exact k M G1 H1 σ E (f.grow g1) s1 (q.go g1 .refl)
theorem ex_asg (h : EvZ K te ρ ρ1 d) (t : TgZ K g A d ρ1 ρ2) (hA : ∀ i ∈ A, i ∉ S) : ExZ K S (tAsg te g) ρ (.nx ρ2) := fun M G H σ E f s q =>
  h M G H σ s _ fun v G1 H1 g1 s1 dv => t M G1 H1 σ v s1 dv _ fun σ2 l2 k2 s2 => q G1 H1 σ2 g1 (keep_of k2 hA) s2
theorem ex_set {i : Nat} (h : EvZ K te ρ ρ1 d) (hi : i ∉ S) : ExZ K S (tAsg te (gName i)) ρ (.nx (ρ1.set i (.fr d))) :=
  ex_asg h tg_name fun j hj => by
    rcases List.mem_cons.mp hj with z | z
    · rw [z]; exact hi
    · cases z
/-- a new list of the frame's own -/
theorem ex_setN {i : Nat} (h : EvN K te ρ ρ1 ds) (ho : OwnIn ρ1 ρ) (hi : i ∉ S) : ExZ K S (tAsg te (gName i)) ρ (.nx (ρ1.set i (.own ds))) := fun M G H σ E f s q =>
  h M G H σ s _ fun p vs G1 H1 g1 s1 hp gp h1 dv => q G1 H1 _ g1 (Keep.set hi) (s1.setO (o := .lst vs) (m := .lst ds) (f p hp) gp h1 dv fun j es _ e => EvN.noOwn (vs := vs) s s1 hp ho j es e)
theorem ex_ret (h : EvZ K te ρ ρ1 d) : ExZ K S (tRet te) ρ (.rt ρ1 (.fr d)) := fun M G H σ E f s q =>
  h M G H σ s _ fun v G1 H1 g1 s1 dv => q v G1 H1 σ g1 .refl s1 dv
theorem ex_retN (h : EvN K te ρ ρ1 ds) : ExZ K S (tRet te) ρ (.rt ρ1 (.own ds)) := fun M G H σ E f s q =>
  h M G H σ s _ fun p vs G1 H1 g1 s1 hp gp h1 dv => q _ G1 H1 σ g1 .refl s1 ⟨p, .lst vs, rfl, f p hp, gp, h1, dv⟩
theorem ex_retM {i : Nat} {m : MO} (h : ρ[i]? = some (.mu m)) : ExZ K S (tRet (tVar i)) ρ (.rt ρ (.mu m)) := fun M G H σ E f s q => by
  obtain ⟨p, o, e, r⟩ := s.mu h
  exact ⟨.ref p, e, q _ G H σ .refl .refl s ⟨p, o, rfl, r⟩⟩
theorem ex_retO {i : Nat} (h : ρ[i]? = some (.own ds)) : ExZ K S (tRet (tVar i)) ρ (.rt ρ (.own ds)) := ex_retM h
theorem ex_drop (h : EvZ K te ρ ρ1 d) : ExZ K S (tDrop te) ρ (.nx ρ1) := fun M G H σ E f s q =>
  h M G H σ s _ fun v G1 H1 g1 s1 dv => q G1 H1 σ g1 .refl s1
/-- freezing an own object -/
theorem ex_freezeM {i : Nat} {m : MO} (h : ρ[i]? = some (.mu m)) (k : ExZ K S ts (ρ.set i (.fr m.d)) o) : ExZ K S ts ρ o := fun M G H σ E f s q => by
  obtain ⟨G', g, s'⟩ := s.freezeM h
  exact k M G' H σ E (f.grow g) s' (q.go g .refl)
theorem ex_freeze {i : Nat} (h : ρ[i]? = some (.own ds)) (k : ExZ K S ts (ρ.set i (.fr (.lst ds))) o) : ExZ K S ts ρ o := ex_freezeM h k
theorem growM {M : MS} {G H : Hp} {σ : L2.St} {i : Nat} {p : Addr} {u : HO} {m : MO} (s : Sim K M G H σ ρ) (h : ρ[i]? = some (.mu m)) (e : σ[i]? = some (some (.ref p))) : Grow M G H G (upd H p u) := by
  obtain ⟨p', vs, e', m, gp, hp, dz⟩ := s.mu h
  rw [e] at e'
  cases e'
  refine ⟨Ex.refl _, fun a o n ha => ?_, fun a _ _ z => z, fun a z => upd_none z⟩
  rw [upd_ne fun z => by subst z; exact n m]
  exact ha
/-- xs.append(e), xs an own list -/
theorem ex_app {i : Nat} (h : EvZ K te ρ ρ1 d) (h0 : ρ[i]? = some (.own es)) (h1 : ρ1[i]? = some (.own ds)) (hl : ds.length < 100000) : ExZ K S (tDrop (tBM K "list" rAppend (tVar i) (tCons te tNil))) ρ (.nx (ρ1.set i (.own (ds ++ [d])))) := fun M G H σ E f s q => by
  obtain ⟨p, vs, e, m, gp, hp, dz⟩ := s.own h0
  refine ⟨.ref p, e, .inl ⟨rfl, vs, sq_of hp⟩, h M G H σ s _ fun v G1 H1 g1 s1 dv => ?_⟩
  obtain ⟨p', us, e', m', gp', hp', dz'⟩ := s1.own h1
  rw [e] at e'
  cases e'
  exact ⟨p, us, v, rfl, rfl, hp', sz_lt (by rw [dz'.len]; exact hl), q G1 _ σ (g1.trans (growM s1 h1 e)) .refl (s1.chO h1 e (dz'.snoc dv))⟩
/-- xs[k] = e, xs an own list -/
theorem ex_setAt {i : Nat} {k : Int} {j : Nat} (h : EvZ K te ρ ρ1 d) (hk : EvZ K tb ρ1 ρ2 (.int k)) (h1 : ρ1[i]? = some (.own es)) (h2 : ρ2[i]? = some (.own ds)) (hj : ixN ds.length k = some j) :
    ExZ K S (tAsg te (gSub (tVar i) tb rSetL)) ρ (.nx (ρ2.set i (.own (ds.set j d)))) := fun M G H σ E f s q =>
  h M G H σ s _ fun v G1 H1 g1 s1 dv => by
    obtain ⟨p, vs, e, m, gp, hp, dz⟩ := s1.own h1
    refine ⟨.ref p, e, hk M G1 H1 σ s1 _ fun w G2 H2 g2 s2 dw => ?_⟩
    obtain ⟨p', us, e', m', gp', hp', dz'⟩ := s2.own h2
    rw [e] at e'
    cases e'
    exact ⟨p, us, k, j, rfl, dw.int_inv, hp', by rw [dz'.len]; exact hj, q G2 _ σ ((g1.trans g2).trans (growM s2 h2 e)) .refl (s2.chO h2 e (dz'.set j (dv.mono g2.g)))⟩
/-! ### loops -/
inductive LoopZ (K : PySem.W.Frag) (S : List Nat) (g : TG) (tb : TS) (A : List Nat) : List D → Rho → Out → Prop
  | nil {ρ : Rho} : LoopZ K S g tb A [] ρ (.nx ρ)
  | step {ρ ρ1 ρ2 : Rho} {d : D} {ds : List D} {o : Out} : TgZ K g A d ρ ρ1 → ExZ K S tb ρ1 (.nx ρ2) → LoopZ K S g tb A ds ρ2 o → LoopZ K S g tb A (d :: ds) ρ o
  | cont {ρ ρ1 ρ2 : Rho} {d : D} {ds : List D} {o : Out} : TgZ K g A d ρ ρ1 → ExZ K S tb ρ1 (.ct ρ2) → LoopZ K S g tb A ds ρ2 o → LoopZ K S g tb A (d :: ds) ρ o
  | brk {ρ ρ1 ρ2 : Rho} {d : D} {ds : List D} : TgZ K g A d ρ ρ1 → ExZ K S tb ρ1 (.bk ρ2) → LoopZ K S g tb A (d :: ds) ρ (.nx ρ2)
  | ret {ρ ρ1 ρ2 : Rho} {d : D} {ds : List D} {c : Cell} : TgZ K g A d ρ ρ1 → ExZ K S tb ρ1 (.rt ρ2 c) → LoopZ K S g tb A (d :: ds) ρ (.rt ρ2 c)
theorem ex_for {wi : TI} {tb : TS} (hi : ItZ K wi ρ ρ1 ds) (hl : LoopZ K S g tb A ds ρ1 o) (hA : ∀ i ∈ A, i ∉ S) : ExZ K S (tFor wi g tb) ρ o := fun M G H σ E f s q =>
  hi M G H σ s _ fun J G1 H1 g1 s1 wk => by
    refine ⟨fun i m σ' H' => i ≤ ds.length ∧ m = ds.length - i ∧ ∃ Gi ρi, Grow M G1 H1 Gi H' ∧ Keep S σ σ' ∧ Sim K M Gi H' σ' ρi ∧ LoopZ K S g tb A (ds.drop i) ρi o, ⟨ds.length, Nat.zero_le _, rfl, G1, ρ1, .refl, .refl, s1, hl⟩, ?_⟩
    rintro i m σi Hi ⟨hle, rfl, Gi, ρi, gi, ki, si, li⟩
    obtain ⟨w1, w2⟩ := wk Gi Hi gi.g si.sub
    cases hit : ds[i]? with
    | none =>
      have hge : ds.length ≤ i := List.getElem?_eq_none_iff.mp hit
      have ei : i = ds.length := Nat.le_antisymm hle hge
      subst ei
      refine .inl ⟨w2, ?_⟩
      rw [List.drop_eq_nil_of_le hge] at li
      cases li
      exact q Gi Hi σi (g1.trans gi) ki si
    | some d =>
      obtain ⟨hlt, ed⟩ := List.getElem?_eq_some_iff.mp hit
      obtain ⟨hgo, hy⟩ := w1 i d hit
      rw [List.drop_eq_getElem_cons hlt, ed] at li
      refine .inr ⟨hgo, fun σ' H' => ∃ Gi ρi, Grow M G1 H1 Gi H' ∧ Keep S σ σ' ∧ Sim K M Gi H' σ' ρi ∧ LoopZ K S g tb A (ds.drop (i + 1)) ρi o, fun σ' H' w => ⟨ds.length - (i + 1), by omega, by omega, rfl, w⟩, fun x H' yl => ?_⟩
      obtain ⟨G2, g2, s2, dx⟩ := hy x H' yl
      have S2 : Sim K M G2 H' σi ρi := si.grow s2 g2.g fun p es j e1 e2 => by
        obtain ⟨p', us, e', m, gp, hp, dz⟩ := si.mu e1
        rw [e2] at e'
        cases e'
        exact ⟨(g2.k p _ (fun z => z) hp).trans hp.symm, g2.n p (fun z => z) (by rw [hp]; simp) gp⟩
      have ga : Grow M G1 H1 G2 H' := gi.trans (g2.wk fun a _ z => z.elim)
      have fr2 : Fresh M H' := f.grow (g1.trans ga)
      cases li with
      | step t1 t2 t3 =>
        refine t1 M G2 H' σi x S2 dx _ fun σa la ka Sa => t2 M G2 H' σa _ fr2 Sa fun G3 H3 σ3 g3 k3 s3 => ⟨G3, _, ga.trans g3, (ki.trans (keep_of ka hA)).trans k3, s3, t3⟩
      | cont t1 t2 t3 =>
        refine t1 M G2 H' σi x S2 dx _ fun σa la ka Sa => t2 M G2 H' σa _ fr2 Sa fun G3 H3 σ3 g3 k3 s3 => ⟨G3, _, ga.trans g3, (ki.trans (keep_of ka hA)).trans k3, s3, t3⟩
      | brk t1 t2 =>
        refine t1 M G2 H' σi x S2 dx _ fun σa la ka Sa => t2 M G2 H' σa _ fr2 Sa fun G3 H3 σ3 g3 k3 s3 => q G3 H3 σ3 ((g1.trans ga).trans g3) ((ki.trans (keep_of ka hA)).trans k3) s3
      | ret t1 t2 =>
        refine t1 M G2 H' σi x S2 dx _ fun σa la ka Sa => t2 M G2 H' σa _ fr2 Sa fun v G3 H3 σ3 g3 k3 s3 r3 => q v G3 H3 σ3 ((g1.trans ga).trans g3) ((ki.trans (keep_of ka hA)).trans k3) s3 r3

/-! ### a def's promise -/
def ResN (K : PySem.W.Frag) (G H0 H : Hp) (v : V) : Cell → Prop
  | .no => True
  | .fr d => Dz K G v d
  | .mu m => ∃ p o, v = .ref p ∧ H0 p = none ∧ G p = none ∧ H p = some o ∧ MOk K G o m
abbrev Rel := List Cell → Cell → List Cell → Prop
/-- called with the cells cs: the answer r, and what the own lists among the arguments are then (cs') -/
def SpZ (K : PySem.W.Frag) (R : Rel) : Sp := fun vs H Q _ => ∃ M G cs r cs', Sim K M G H (vs.map some) cs ∧ R cs r cs' ∧ ∀ v G' H', Grow M G H G' H' → Sim K M G' H' (vs.map some) cs' → ResN K G' H H' v r → Q v H'
theorem spz_len {R : Rel} {n : Nat} (hR : ∀ cs r cs', R cs r cs' → cs.length = n) : ∀ vs H Q E, SpZ K R vs H Q E → vs.length = n := fun vs H Q E ⟨M, G, cs, r, cs', s, h, _⟩ => by
  have := s.len
  rw [List.length_map] at this
  rw [this]
  exact hR _ _ _ h
/-- what the end of a body must say of the arguments -/
structure FinZ (S : List Nat) (cs cs' : List Cell) (ρ' : Rho) (r : Cell) : Prop where
  len : cs'.length = cs.length
  own : ∀ (i : Nat) (ds : MO), cs'[i]? = some (.mu ds) → i ∈ S ∧ ρ'[i]? = some (.mu ds) ∧ ∃ es, cs[i]? = some (.mu es)
  fr : ∀ (i : Nat) (d : D), cs'[i]? = some (.fr d) → cs[i]? = some (.fr d)
  res : ∀ (ds : MO), r = .mu ds → ∀ (i : Nat) (es : MO), cs[i]? ≠ some (.mu es)
theorem fin_fr {S : List Nat} {ds : List D} {ρ' : Rho} {r : Cell} : FinZ S (ds.map .fr) (ds.map .fr) ρ' r := by
  have no : ∀ (i : Nat) (es : MO), (ds.map Cell.fr)[i]? ≠ some (.mu es) := fun i es h => by
    rw [List.getElem?_map] at h
    cases e : ds[i]? with
    | none => rw [e] at h; cases h
    | some d => rw [e] at h; cases h
  exact ⟨rfl, fun i es h => absurd h (no i es), fun i d h => h, fun _ _ => no⟩
/-- the first argument an own list, the others frozen -/
theorem fin_mu {S : List Nat} {ds : List D} {ρ' : Rho} {d : D} {b b' : MO} (h0 : 0 ∈ S) (h : ρ'[0]? = some (.mu b')) : FinZ S (.mu b :: ds.map .fr) (.mu b' :: ds.map .fr) ρ' (.fr d) := by
  refine ⟨rfl, fun i es h1 => ?_, fun i d h1 => ?_, fun _ z => by cases z⟩
  · cases i with
    | zero =>
      have e : b' = es := by
        have q : some (Cell.mu b') = some (Cell.mu es) := h1
        cases q; rfl
      subst e
      exact ⟨h0, h, b, rfl⟩
    | succ i =>
      have q : (ds.map Cell.fr)[i]? = some (.mu es) := h1
      rw [List.getElem?_map] at q
      cases e : ds[i]? with
      | none => rw [e] at q; cases q
      | some d => rw [e] at q; cases q
  · cases i with
    | zero =>
      have q : some (Cell.mu b') = some (Cell.fr d) := h1
      cases q
    | succ i => exact h1
theorem fin_box {S : List Nat} {ds : List D} {ρ' : Rho} {d : D} {b b' : List D} (h0 : 0 ∈ S) (h : ρ'[0]? = some (.own b')) : FinZ S (.own b :: ds.map .fr) (.own b' :: ds.map .fr) ρ' (.fr d) := fin_mu h0 h
theorem sim_start {M : MS} {G H : Hp} {vs : List V} {cs : List Cell} (s : Sim K M G H (vs.map some) cs) (n : Nat) : Sim K M G H (vs.map some ++ List.replicate n none) (cs ++ List.replicate n .no) := by
  have el : vs.length = cs.length := by have := s.len; rw [List.length_map] at this; exact this
  have key : ∀ {i : Nat} {c : Cell}, c ≠ .no → (cs ++ List.replicate n Cell.no)[i]? = some c → cs[i]? = some c ∧ (vs.map some ++ List.replicate n none)[i]? = (vs.map some)[i]? := fun {i c} hc h => by
    by_cases hi : i < cs.length
    · rw [List.getElem?_append_left hi] at h
      exact ⟨h, by rw [List.getElem?_append_left (by rw [List.length_map, el]; exact hi)]⟩
    · rw [List.getElem?_append_right (by omega)] at h
      have q := List.mem_of_getElem? h
      exact absurd (List.eq_of_mem_replicate q) hc
  refine ⟨by rw [List.length_append, List.length_append, List.length_replicate, List.length_replicate, List.length_map, el], s.sub, fun {i d} h => ?_, fun {i d} h => ?_, fun {i j d e p} ne h1 h2 h3 h4 => ?_⟩
  · obtain ⟨a, b⟩ := key (by simp) h
    obtain ⟨v, e1, e2⟩ := s.fr a
    exact ⟨v, by rw [b]; exact e1, e2⟩
  · obtain ⟨a, b⟩ := key (by simp) h
    obtain ⟨p, us, e1, e2⟩ := s.mu a
    exact ⟨p, us, by rw [b]; exact e1, e2⟩
  · obtain ⟨a, b⟩ := key (by simp) h1
    obtain ⟨a', b'⟩ := key (by simp) h2
    rw [b] at h3
    rw [b'] at h4
    exact s.apart ne a a' h3 h4
/-- a def's body -/
theorem body_z {N : List Str} {vs : List V} {H : Hp} {Q : VK} {X : XK} {R : Rel} {t : TS} (S : List Nat) (h : SpZ K R vs H Q X)
    (hb : ∀ cs r cs', R cs r cs' → ∃ ρ', (ExZ K S t (cs ++ List.replicate (N.length - cs.length) .no) (.rt ρ' r) ∨ (r = .fr .non ∧ ExZ K S t (cs ++ List.replicate (N.length - cs.length) .no) (.nx ρ'))) ∧ FinZ S cs cs' ρ' r) : t { nx := fun _ H' => Q .non H', rt := Q } (L2.start N vs) H := by
  obtain ⟨M0, G, cs, r, cs', s, hR, q⟩ := h
  obtain ⟨ρ', hx, fin⟩ := hb cs r cs' hR
  have el : vs.length = cs.length := by have := s.len; rw [List.length_map] at this; exact this
  -- the set that may change: what is new, too; nothing else if the answer is an own list
  have hM : ∃ M1 : MS, (∀ a, M1 a → M0 a) ∧ Sim K M1 G H (vs.map some) cs ∧ (∀ ds : MO, r = .mu ds → ∀ a, ¬ M1 a) := by
    cases r with
    | mu ds => exact ⟨fun _ => False, fun _ z => z.elim, s.chMo fun p es i e1 _ => absurd e1 (fin.res ds rfl i es), fun _ _ _ z => z⟩
    | no => exact ⟨M0, fun _ z => z, s, fun _ z => by cases z⟩
    | fr d => exact ⟨M0, fun _ z => z, s, fun _ z => by cases z⟩
  obtain ⟨M1, m01, s1, hown⟩ := hM
  have st : Sim K (fun a => M1 a ∨ H a = none) G H (L2.start N vs) (cs ++ List.replicate (N.length - cs.length) .no) := by
    unfold L2.start
    rw [el]
    exact sim_start (s1.chM fun p _ m => .inl m) _
  have post : ∀ v G' H' σ', Grow (fun a => M1 a ∨ H a = none) G H G' H' → Keep S (L2.start N vs) σ' → Sim K (fun a => M1 a ∨ H a = none) G' H' σ' ρ' → ResOk K (fun a => M1 a ∨ H a = none) G' H' v r → Q v H' := fun v G' H' σ' g k s' rs => by
    have g0 : Grow M0 G H G' H' := g.wk fun a e z => by
      rcases z with z | z
      · exact m01 a z
      · exact absurd z e
    have back : ∀ (i : Nat) (ds : MO), cs'[i]? = some (.mu ds) → σ'[i]? = (vs.map some)[i]? ∧ ρ'[i]? = some (.mu ds) := fun i ds h1 => by
      obtain ⟨a, b, es, c⟩ := fin.own i ds h1
      have hi : i < vs.length := by rw [el]; exact (List.getElem?_eq_some_iff.mp c).1
      refine ⟨(k i a).trans ?_, b⟩
      unfold L2.start
      rw [List.getElem?_append_left (by rw [List.length_map]; exact hi)]
    refine q v G' H' g0 ⟨by rw [fin.len]; exact s.len, s'.sub, fun {i d} h1 => ?_, fun {i ds} h1 => ?_, fun {i j ds es p} ne h1 h2 h3 h4 => ?_⟩ ?_
    · obtain ⟨w, e1, e2⟩ := s.fr (fin.fr i d h1)
      exact ⟨w, e1, e2.mono g.g⟩
    · obtain ⟨a, b⟩ := back i ds h1
      obtain ⟨_, _, es, c⟩ := fin.own i ds h1
      obtain ⟨p, us, e1, m1, g1, h2, dd⟩ := s'.mu b
      obtain ⟨p0, us0, e0, m0, _⟩ := s.mu c
      rw [a, e0] at e1
      cases e1
      exact ⟨p, us, e0, m0, g1, h2, dd⟩
    · obtain ⟨a1, b1⟩ := back i ds h1
      obtain ⟨a2, b2⟩ := back j es h2
      exact s'.apart ne b1 b2 (a1.trans h3) (a2.trans h4)
    · cases r with
      | no => exact trivial
      | fr d => exact rs
      | mu ds =>
        obtain ⟨p, us, e1, m1, r2⟩ := rs
        refine ⟨p, us, e1, ?_, r2⟩
        rcases m1 with z | z
        · exact absurd z (hown ds rfl p)
        · exact z
  rcases hx with hx | ⟨er, hx⟩
  · exact hx _ G H _ _ (fun a e => .inr e) st post
  · subst er
    exact hx _ G H _ _ (fun a e => .inr e) st fun G' H' σ' g k s' => post .non G' H' σ' g k s' .non

/-! ### calls -/
theorem sim_args {G H : Hp} {vs : List V} (hd : Dzs K G vs ds) (s : Ex G H) : Sim K (fun _ => False) G H (vs.map some) (ds.map .fr) := by
  have no : ∀ {i : Nat} {es : MO}, (ds.map Cell.fr)[i]? = some (.mu es) → False := fun {i es} h => by
    rw [List.getElem?_map] at h
    cases e : ds[i]? with
    | none => rw [e] at h; cases h
    | some d => rw [e] at h; cases h
  refine ⟨by rw [List.length_map, List.length_map, hd.len], s, fun {i d} h => ?_, fun h => (no h).elim, fun _ h => (no h).elim⟩
  rw [List.getElem?_map] at h
  cases e : ds[i]? with
  | none => rw [e] at h; cases h
  | some d' =>
    rw [e] at h
    cases h
    obtain ⟨v, e1, e2⟩ := hd.get e
    exact ⟨v, by rw [List.getElem?_map, e1]; rfl, e2⟩
theorem Sim.after {M : MS} {G H G' H' : Hp} {σ : L2.St} (S : Sim K M G H σ ρ) (g : Grow (fun _ => False) G H G' H') (s : Ex G' H') : Sim K M G' H' σ ρ :=
  S.grow s g.g fun p es j e1 e2 => by
    obtain ⟨p', us, e', m, gp, hp, dz⟩ := S.mu e1
    rw [e2] at e'
    cases e'
    exact ⟨(g.k p _ (fun z => z) hp).trans hp.symm, g.n p (fun z => z) (by rw [hp]; simp) gp⟩
/-- all arguments frozen, the answer frozen -/
theorem ev_callF {R : Rel} {X : XK} {tx : TA} (h : AgZ K tx ρ ρ' ds) (hR : R (ds.map .fr) (.fr d) (ds.map .fr)) : EvZ K (tCall (SpZ K R) [] X tx) ρ ρ' d := fun M G H σ S Q q =>
  h M G H σ S _ fun vs G1 H1 g1 s1 dv => by
    rw [List.append_nil]
    refine ⟨fun _ => False, G1, ds.map .fr, .fr d, ds.map .fr, sim_args dv s1.sub, hR, fun v G' H' g s r => q v G' H' (g1.trans (g.wk fun _ _ z => z.elim)) (s1.after g s.sub) r⟩
/-- all arguments frozen, the answer a new list -/
theorem en_callF {R : Rel} {X : XK} {tx : TA} (h : AgZ K tx ρ ρ' ds) (hR : R (ds.map .fr) (.own es) (ds.map .fr)) : EvN K (tCall (SpZ K R) [] X tx) ρ ρ' es := fun M G H σ S Q q =>
  h M G H σ S _ fun vs G1 H1 g1 s1 dv => by
    rw [List.append_nil]
    refine ⟨fun _ => False, G1, ds.map .fr, .own es, ds.map .fr, sim_args dv s1.sub, hR, fun v G' H' g s r => ?_⟩
    obtain ⟨p, ou, rfl, hp, gp, hp', du⟩ := r
    obtain ⟨us, rfl, du⟩ := mok_lst du
    exact q p us G' H' (g1.trans (g.wk fun _ _ z => z.elim)) (s1.after g s.sub) (g1.d p hp) gp hp' du
/-- the first argument the own object at slot i, the others frozen -/
theorem ev_callM {R : Rel} {X : XK} {tr : TA} {i : Nat} {b0 b1 b2 : MO} (h0 : ρ[i]? = some (.mu b0)) (h : AgZ K tr ρ ρ1 ds) (h1 : ρ1[i]? = some (.mu b1)) (hR : R (.mu b1 :: ds.map .fr) (.fr d) (.mu b2 :: ds.map .fr)) :
    EvZ K (tCall (SpZ K R) [] X (tCons (tVar i) tr)) ρ (ρ1.set i (.mu b2)) d := fun M G H σ S Q q => by
  obtain ⟨p, vs, e, m, gp, hp, dz⟩ := S.mu h0
  refine ⟨.ref p, e, h M G H σ S _ fun ws G1 H1 g1 s1 dv => ?_⟩
  show SpZ K R ((V.ref p :: ws) ++ []) H1 Q X
  rw [List.append_nil]
  obtain ⟨p', us, e', m', gp', hp', dz'⟩ := s1.mu h1
  rw [e] at e'
  cases e'
  have sa := sim_args (K := K) dv s1.sub
  have s0 : Sim K (fun a => a = p) G1 H1 ((V.ref p :: ws).map some) (.mu b1 :: ds.map .fr) := by
    refine ⟨by rw [List.map_cons, List.length_cons, List.length_cons, sa.len], s1.sub, fun {j d} h => ?_, fun {j d} h => ?_, fun {j k d e q} ne h2 h3 h4 h5 => ?_⟩
    · cases j with
      | zero => exact absurd (show some (Cell.mu b1) = some (Cell.fr d) from h) (by simp)
      | succ j => exact sa.fr (i := j) h
    · cases j with
      | zero =>
        have z : some (Cell.mu b1) = some (Cell.mu d) := h
        cases z
        exact ⟨p, us, rfl, rfl, gp', hp', dz'⟩
      | succ j =>
        obtain ⟨_, _, _, z, _⟩ := sa.mu (i := j) h
        exact z.elim
    · cases j with
      | zero =>
        cases k with
        | zero => exact ne rfl
        | succ k =>
          obtain ⟨_, _, _, z, _⟩ := sa.mu (i := k) h3
          exact z.elim
      | succ j =>
        obtain ⟨_, _, _, z, _⟩ := sa.mu (i := j) h2
        exact z.elim
  refine ⟨fun a => a = p, G1, .mu b1 :: ds.map .fr, .fr d, .mu b2 :: ds.map .fr, s0, hR, fun v G' H' g s r => ?_⟩
  have gM : Grow M G1 H1 G' H' := g.wk fun a _ z => by subst z; exact m'
  obtain ⟨p2, us2, e2, m2, gp2, hp2, dz2⟩ := s.mu (i := 0) rfl
  have ep : p = p2 := by cases e2; rfl
  subst ep
  refine q v G' H' (g1.trans gM) ⟨by rw [List.length_set]; exact s1.len, s.sub, fun {j d} h => ?_, fun {j d} h => ?_, fun {j k d e2 q} ne h2 h3 h4 h5 => ?_⟩ r
  · rcases get_set h with ⟨_, z, _⟩ | ⟨_, h⟩
    · cases z
    · obtain ⟨w, a1, a2⟩ := s1.fr h
      exact ⟨w, a1, a2.mono g.g⟩
  · rcases get_set h with ⟨ej, z, _⟩ | ⟨ej, h⟩
    · subst ej
      cases z
      exact ⟨p, us2, e, m', gp2, hp2, dz2⟩
    · obtain ⟨w, ws', a1, a2, a3, a4, a5⟩ := s1.mu h
      have ne : w ≠ p := fun z => by
        subst z
        exact s1.apart ej h1 h e a1
      exact ⟨w, ws', a1, a2, g.n w ne (by rw [a4]; simp) a3, g.k w _ ne a4, a5.mono g.g⟩
  · have a1 : ∃ x, ρ1[j]? = some (.mu x) := by
      rcases get_set h2 with ⟨ej, _, _⟩ | ⟨_, h2⟩
      · subst ej; exact ⟨_, h1⟩
      · exact ⟨_, h2⟩
    have a2 : ∃ x, ρ1[k]? = some (.mu x) := by
      rcases get_set h3 with ⟨ej, _, _⟩ | ⟨_, h3⟩
      · subst ej; exact ⟨_, h1⟩
      · exact ⟨_, h3⟩
    obtain ⟨x, a1⟩ := a1
    obtain ⟨y, a2⟩ := a2
    exact s1.apart ne a1 a2 h4 h5
theorem ev_callB {R : Rel} {X : XK} {tr : TA} {i : Nat} {b0 b1 b2 : List D} (h0 : ρ[i]? = some (.own b0)) (h : AgZ K tr ρ ρ1 ds) (h1 : ρ1[i]? = some (.own b1)) (hR : R (.own b1 :: ds.map .fr) (.fr d) (.own b2 :: ds.map .fr)) :
    EvZ K (tCall (SpZ K R) [] X (tCons (tVar i) tr)) ρ (ρ1.set i (.own b2)) d := ev_callM h0 h h1 hR
end Z

set_option Elab.async false
set_option linter.all false
set_option maxRecDepth 100000
set_option maxHeartbeats 2000000
/-! ZSpec: a def as a relation of cells, its promise, calls by it; short names of readings; isinstance. -/
namespace Z
open PySem PySem.Spec PyProof.Rows L2
open Evl (Ex Ex.refl Ex.trans Ex.new ex_rd ex_l ex_t sq_of st_of fresh_back sz_of sz_lt)

/-- what the body t (n slots, m parameters) makes of the cells cs -/
def RelOf (K : PySem.W.Frag) (S : List Nat) (t : TS) (n m : Nat) : Rel := fun cs r cs' => cs.length = m ∧ ∃ ρ', (ExZ K S t (cs ++ List.replicate (n - m) .no) (.rt ρ' r) ∨ (r = .fr .non ∧ ExZ K S t (cs ++ List.replicate (n - m) .no) (.nx ρ'))) ∧ FinZ S cs cs' ρ' r
/-- R gives, from Pre, an answer of Post -/
def Spec (R : Rel) (Pre : List Cell → Prop) (Post : List Cell → Cell → List Cell → Prop) : Prop := ∀ cs, Pre cs → ∃ r cs', R cs r cs' ∧ Post cs r cs'
/-- the def x keeps the promise of R -/
structure Zdef (P : Program) (w : World) (K : PySem.W.Frag) (mg : Str → Option Value) (base : Heap) (k : Nat) (x : Str) (ps : List Str) (R : Rel) : Prop where
  ex : ∃ (f : Addr) (fd : FuncData), FnOk P w K mg base CX0 k f fd ps (SpZ K R) ∧ mg x = some (.ref f) ∧ PySem.W.keepIn K (.ref f) = true ∧ Binds K fd ps [] ∧ ∃ (oc : Value) (od : Option Addr) (osl : Array (Option Value)), K.lookup f = some ⟨oc, od, .func fd, osl⟩
theorem Fun.look {K : PySem.W.Frag} {x qual : Str} {st : Stmt} {f : Addr} {fd : FuncData} (F : Fun K x qual st f fd) : ∃ (oc : Value) (od : Option Addr) (osl : Array (Option Value)), K.lookup f = some ⟨oc, od, .func fd, osl⟩ := by
  obtain ⟨oc, od, _, _, _, _, _, _, osl, rfl, lk, _⟩ := F.ex
  exact ⟨oc, od, osl, lk⟩
theorem def_z {P : Program} {w : World} {K : PySem.W.Frag} {mg : Str → Option Value} {base : Heap} {x qual : Str} {st : Stmt} {f : Addr} {fd : FuncData} {N ps : List Str} {k n m : Nat} {t : TS} {S : List Nat} (F : Fun K x qual st f fd) (hm : mg x = some (.ref f))
    (Sc : FnScope N ps (defScope st)) (hn : N.length = n) (hp : ps.length = m) (b : Binds K fd ps [])
    (h : ∀ (cdv : Value) (A : Around) (outer : List Env) (s : Shared) (H : Hp) (E : XK), Room k (A.deeper (envOfC qual (defScope st) s.heap.objs.size f cdv)) → PSs (cxOf CX0 P w K mg base N qual (defScope st) f cdv A outer s H E).nox (defBody st) t) :
    Zdef P w K mg base (k + 1) x ps (RelOf K S t n m) := by
  subst hn
  subst hp
  refine ⟨f, fd, F.ok Sc (spz_len fun _ _ _ h => h.1) (fun cdv A outer s H vs Q E hr hsp => ⟨t, h cdv A outer s H E hr, body_z S hsp fun cs r cs' hR => ?_⟩), hm, F.kp, b, Fun.look F⟩
  obtain ⟨hl, ρ', h1, h2⟩ := hR
  rw [hl]
  exact ⟨ρ', h1, h2⟩
theorem pe_callZ {X : Cx} {k : Nat} {x : Str} {ps : List Str} {R : Rel} {e : Expr} {es : List Expr} {p pos : Pos} {t : TA} (G : Zdef X.prog X.w X.K X.mg X.base k x ps R) {j : Nat} (hr : Room j X.A) (hk : k ≤ j) (hg : Gl X x) (ha : PA X (e :: es) t)
    (hdb : (x == ("__debug__" : Str)) = false := by decide) (he : starEach (e :: es) X.env = (false, eval e X.env) :: starEach es X.env := by rfl) (hpl : (backTo pos (starEach es X.env)).any (·.1) = false := by rfl) :
    PE X (.Call (.Name x p) (e :: es) [] pos) (tCall (SpZ X.K R) [] E0 t) := by
  obtain ⟨f, fd, h1, h2, h3, h4, _⟩ := G.ex
  exact pe_call h1 (hr.mono hk) hg h2 h3 h4 .nil pass0 ha hdb he hpl

/-! ### readings by short names -/
abbrev rAddI : R2 := rI0 fun i j => .int (i + j)
abbrev rSubI : R2 := rI0 fun i j => .int (i - j)
abbrev rMulI : R2 := rI CMul fun i j => .int (i * j)
abbrev rModI : R2 := rI (fun _ j => 0 < j) fun i j => .int (i % j)
abbrev rDivI : R2 := rI CDiv fun i j => .int (i / j)
abbrev rPowI : R2 := rI CPow fun i j => .int (i ^ j.toNat)
abbrev rLtI : R2 := rI0 fun i j => .bl (decide (i < j))
abbrev rLeI : R2 := rI0 fun i j => .bl (decide (i ≤ j))
abbrev rGtI : R2 := rI0 fun i j => .bl (decide (j < i))
abbrev rGeI : R2 := rI0 fun i j => .bl (decide (j ≤ i))
abbrev rCatS : R2 := fun x y H Q => ∃ i j, x = .str i ∧ y = .str j ∧ i.length + j.length ≤ sizeLine ∧ Q (.str (i ++ j)) H
abbrev rInSg : R2 := fun x y H Q => ∃ (c : Nat) (z : Str), x = .str ⟨#[c]⟩ ∧ y = .str z ∧ Q (.bl (decide (c ∈ z.cps.toList))) H
abbrev rLenX (K : PySem.W.Frag) : List V → Hp → VK → Prop := fun xs H Q => ∃ x n, xs = [x] ∧ LenV K x H n ∧ Q (.int n) H
abbrev rToInt : List V → Hp → VK → Prop := fun xs H Q => (∃ i, xs = [.int i] ∧ Q (.int i) H) ∨ ∃ k, xs = [.bl k] ∧ Q (.int (if k then 1 else 0)) H
abbrev rIsN : R2 := fun x y H Q => y = .non ∧ Q (.bl (decide (x = .non))) H
def tTruth (K : PySem.W.Frag) (ta : TE) : TT := fun σ H Q => ta σ H fun x H' => ∃ k, TruV K x H' k ∧ Q k H'

/-! ### isinstance of data -/
section
variable {K : PySem.W.Frag} {ρ ρ' : Rho} {ta : TE} {d : D}
def tyN : D → String
  | .non => "NoneType"
  | .bl _ => "bool"
  | .int _ => "int"
  | .str _ => "str"
  | .lst _ => "list"
  | .tup _ => "tuple"
  | .dK _ => "dict"
  | .dT _ => "dict"
  | .ins _ _ => ""
  | .rng _ _ => "range"
  | .tupf _ => "tuple"
def notIns : D → Bool
  | .ins _ _ => false
  | .rng _ _ => false
  | .tupf _ => false
  | _ => true
theorem tyx_of {H : Hp} {v : V} (h : Dz K H v d) (hn : notIns d = true) : TyX K H v (.type (tyN d)) := by
  cases h with
  | non => exact .base .non
  | bl b => exact .base (.bl b)
  | int i => exact .base (.int i)
  | str x => exact .base (.str x)
  | lst h _ =>
    rcases h with (h | ⟨o, h⟩) | ⟨o, its, n, h, hc, _⟩
    · exact .base (.lst h)
    · exact .base (.frz h)
    · exact .kList h hc
  | tup h _ => exact .base (.tup h)
  | zt h =>
    obtain ⟨o, its, n, h, hc, _⟩ := h
    exact .kTuple h hc
  | dK h _ => exact .base (.dK h)
  | dT h _ => exact .base (.dT h)
  | ins _ _ => cases hn
  | rng _ => cases hn
  | tupf _ _ _ _ _ => cases hn
  | ft h _ _ => exact .fTuple h
theorem ev_isi {T : String} {b : Bool} (ha : EvZ K ta ρ ρ' d) (hk : PySem.W.kitOne K (.type (tyN d)) (.type T) = some b) (hn : notIns d = true := by rfl) : EvZ K (tCB (rIsi K) (tCons ta (tCons (tC (.ty T)) tNil))) ρ ρ' (.bl b) := fun M G H σ S Q q =>
  ha M G H σ S _ fun u G1 H1 g1 s1 du => ⟨u, .ty T, _, _, b, rfl, .ty T, tyx_of (du.mono s1.sub) hn, hk, q _ G1 H1 g1 s1 (.bl b)⟩
end
example (K : PySem.W.Frag) : PySem.W.kitOne K (.type "bool") (.type "int") = some true := by rfl
example (K : PySem.W.Frag) : PySem.W.kitOne K (.type "bool") (.type "tuple") = some false := by rfl
end Z
namespace Z
open PySem PySem.Spec PyProof.Rows L2
/-- the def never called: it keeps every promise that nothing asks -/
theorem zdef_none {P : Program} {w : World} {K : PySem.W.Frag} {mg : Str → Option Value} {base : Heap} {x qual : Str} {st : Stmt} {f : Addr} {fd : FuncData} {ps : List Str} (F : Fun K x qual st f fd) (hm : mg x = some (.ref f)) (b : Binds K fd ps []) (k : Nat) :
    Zdef P w K mg base k x ps (fun _ _ _ => False) :=
  ⟨f, fd, ⟨fun vs H Q E h => by obtain ⟨_, _, _, _, _, _, h, _⟩ := h; exact h.elim, fun A outer s H args us vs Q E hr he hb hv h => by obtain ⟨_, _, _, _, _, _, h, _⟩ := h; exact h.elim⟩, hm, F.kp, b, Fun.look F⟩
/-- the script's list as data -/
theorem dz_script {K : PySem.W.Frag} {H : Hp} {a : Addr} {ns : List Int} (h : SqL K H a (ns.map V.int)) : Dz K H (.ref a) (.lst (ns.map .int)) := .lst h (.of_ints ns)
/-- the promise of a law: whatever the script, True -/
def SpLaw (K : PySem.W.Frag) : Sp := fun vs H Q _ => ∃ (a : Addr) (ns : List Int), vs = [.ref a] ∧ SqL K H a (ns.map V.int) ∧ ∀ H', Q (.bl true) H'
theorem law_imp {K : PySem.W.Frag} {R : Rel} (hR : ∀ ns : List Int, R [.fr (.lst (ns.map .int))] (.fr (.bl true)) [.fr (.lst (ns.map .int))]) : ∀ vs H Q E, SpLaw K vs H Q E → SpZ K R vs H Q E := fun vs H Q E ⟨a, ns, hv, hs, q⟩ => by
  subst hv
  refine ⟨fun _ => False, H, [.fr (.lst (ns.map .int))], .fr (.bl true), [.fr (.lst (ns.map .int))], sim_args (ds := [.lst (ns.map .int)]) (.cons (dz_script hs) .nil) (fun _ _ h => h), hR ns, fun v G' H' _ _ r => ?_⟩
  have e : v = .bl true := Dz.bl_inv r
  rw [e]
  exact q H'
/-- a tuple of the module's own: texts -/
theorem dz_kept {K : PySem.W.Frag} {a : Addr} {o : Obj} {its : Array Value} {n : Nat} {xs : List V} {ds : List D} (h : K.lookup a = some o) (hc : o.cls = .type "tuple") (hd : o.data = .seq its n) (hz : its.size ≤ sizeLine) (hv : Vals xs its.toList) (hx : ∀ H, Dzs K H xs ds) : ∀ H, DzR K H (.ref a) (.tup ds) := fun H =>
  .kept rfl rfl (.inr ⟨o, its, n, h, hc, hd, hz, hv⟩) (hx H)
end Z
namespace Z
open PySem PySem.Spec PyProof.Rows L2
/-- the law's def, by its record -/
theorem law_fd {P : Program} {w : World} {K : PySem.W.Frag} {mg : Str → Option Value} {base : Heap} {k : Nat} {x : Str} {ps : List Str} {R : Rel} {f : Addr} {fd : FuncData} {sp : Sp} {oc : Value} {od : Option Addr} {sl : Array (Option Value)} (Z : Zdef P w K mg base k x ps R) (hf : mg x = some (.ref f))
    (l : K.lookup f = some ⟨oc, od, .func fd, sl⟩) (q : ∀ vs H Q E, sp vs H Q E → SpZ K R vs H Q E) : FnOk P w K mg base CX0 k f fd ps sp := by
  obtain ⟨f', fd', h1, h2, h3, h4, oc', od', sl', l'⟩ := Z.ex
  rw [hf] at h2
  cases h2
  rw [l] at l'
  cases l'
  exact h1.imp q
end Z

set_option Elab.async false
set_option linter.all false
set_option maxRecDepth 100000
set_option maxHeartbeats 2000000
/-! ZMore: forms of the rules that are used often. -/
namespace Z
open PySem PySem.Spec PyProof.Rows L2
open Evl (Ex Ex.refl Ex.trans Ex.new ex_rd ex_l ex_t sq_of st_of fresh_back sz_of sz_lt)
variable {K : PySem.W.Frag} {S : List Nat} {ρ ρ' ρ1 ρ2 ρ3 : Rho} {ta tb tc te tl : TE} {tt tu : TT} {ts us : TS} {g : TG} {A : List Nat} {d e x y : D} {ds es xs ys rs : List D} {b c : Bool} {o : Out}
/-- an if that leaves, or is gone by -/
theorem ex_when {cl : Cell} (h : TsZ K tt ρ ρ1 b) (h1 : b = true → ∃ ρ2, ExZ K S ts ρ1 (.rt ρ2 cl)) (h2 : b = false → ∃ ρ2, ExZ K S us ρ1 (.rt ρ2 cl)) : ∃ ρ2, ExZ K S (tSeq (tIfS tt ts tNext) us) ρ (.rt ρ2 cl) := by
  cases b with
  | true =>
    obtain ⟨ρ2, h3⟩ := h1 rfl
    exact ⟨ρ2, ex_seqR (ex_ifT h h3)⟩
  | false =>
    obtain ⟨ρ2, h3⟩ := h2 rfl
    exact ⟨ρ2, ex_seq (ex_ifF h ex_next) h3⟩
theorem set_no {j : Nat} {c : Cell} (h : ρ[j]? = some .no) : wipeR (ρ.set j c) [j] = ρ := by
  show (ρ.set j c).set j .no = ρ
  rw [List.set_set]
  apply List.ext_getElem?
  intro i
  by_cases e : j = i
  · subst e
    rw [List.getElem?_set_self (List.getElem?_eq_some_iff.mp h).1, h]
  · rw [List.getElem?_set_ne e]
/-- the same where the items are those of a list of something -/
theorem comp_mapA {α : Type} {j : Nat} (u : α → D) (f : α → D) (hj : ρ[j]? = some .no) : ∀ (as : List α), (∀ a ∈ as, EvZ K te (ρ.set j (.fr (u a))) (ρ.set j (.fr (u a))) (f a)) → CompZ K (gName j) tYes te [j] [j] (as.map u) ρ (as.map f) ρ
  | [], _ => .nil
  | d :: ds, h => by
    refine .yes tg_name ts_yes (h d List.mem_cons_self) ?_
    rw [set_no hj]
    exact comp_mapA u f hj ds fun d' hd => h d' (List.mem_cons_of_mem _ hd)
def isNo : D → Bool
  | .non => true
  | _ => false
theorem ev_isN (ha : EvZ K ta ρ ρ1 d) : EvZ K (tOp rIsN ta (tC .non)) ρ ρ1 (.bl (isNo d)) :=
  ev_op ha ev_non.rd fun u v G H Q _ du dv q => by
    refine ⟨dv.non_inv, ?_⟩
    cases du <;> exact q _ (.bl _)
theorem rangeD_cons {m n : Nat} : rangeD (m : Int) (n + 1) = .int (m : Int) :: rangeD ((m + 1 : Nat) : Int) n := by
  unfold rangeD
  rw [List.range_succ_eq_map, List.map_cons, List.map_map]
  have h0 : (m : Int) + ((0 : Nat) : Int) = (m : Int) := by omega
  rw [h0]
  refine congrArg _ (List.map_congr_left fun i _ => ?_)
  show D.int ((m : Int) + ((i + 1 : Nat) : Int)) = D.int (((m + 1 : Nat) : Int) + (i : Int))
  exact congrArg D.int (by omega)
end Z

set_option Elab.async false
set_option linter.all false
set_option maxRecDepth 100000
set_option maxHeartbeats 2000000
/-! ZComp2: comprehensions with two for clauses. -/
namespace Z
open PySem PySem.Spec PyProof.Rows L2
open Evl (Ex Ex.refl Ex.trans Ex.new ex_rd ex_l ex_t sq_of st_of fresh_back sz_of sz_lt)
variable {K : PySem.W.Frag} {ρ ρ' ρ1 ρ2 ρ3 ρ4 ρ5 : Rho} {te : TE} {tt tt1 : TT} {g g1 : TG} {wi wi1 : TI} {ds rs : List D} {vs vs1 A A1 : List Nat}
inductive CompZ2 (K : PySem.W.Frag) (g : TG) (tt : TT) (wi1 : TI) (g1 : TG) (tt1 : TT) (te : TE) (vs vs1 A A1 : List Nat) (most : Nat) : List D → Rho → List D → Rho → Prop
  | nil {ρ : Rho} : CompZ2 K g tt wi1 g1 tt1 te vs vs1 A A1 most [] ρ [] ρ
  | step {ρ ρ1 ρ2 ρ3 ρ4 ρ5 : Rho} {d : D} {ds ds1 rs1 rs : List D} : TgZ K g A d ρ ρ1 → TsZ K tt ρ1 ρ2 true → ItZ K wi1 ρ2 ρ3 ds1 → ds1.length ≤ most → CompZ K g1 tt1 te vs1 A1 ds1 (wipeR ρ3 vs1) rs1 ρ4 →
      CompZ2 K g tt wi1 g1 tt1 te vs vs1 A A1 most ds (wipeR ρ4 vs) rs ρ5 → CompZ2 K g tt wi1 g1 tt1 te vs vs1 A A1 most (d :: ds) ρ (rs1 ++ rs) ρ5
/-- what stands between two items (σ the slots, rl to come, rd made, at Dl) -/
structure CW (K : PySem.W.Frag) (Next : Rho → List D → Prop) (M : MS) (G1 H1 : Hp) (Dl : Addr) (σ : L2.St) (rs : List D) (most : Nat) (H : Hp) : Prop where
  ex : ∃ G ρi rd rl vd, Grow (fun a => M a ∨ a = Dl) G1 H1 G H ∧ Sim K (fun a => M a ∧ a ≠ Dl) G H σ ρi ∧ Next ρi rl ∧ rd ++ rl = rs ∧ rd.length ≤ most ∧ G Dl = none ∧ H Dl = some (.lst vd) ∧ Dzs K G vd rd
end Z

set_option Elab.async false
set_option linter.all false
set_option maxRecDepth 100000
set_option maxHeartbeats 2000000
/-! ZEnum: for i, x in enumerate(t), t a tuple. -/
namespace Z
open PySem PySem.Spec PyProof.Rows L2
open Sem (wp)
end Z

set_option Elab.async false
set_option linter.all false
set_option maxRecDepth 100000
set_option maxHeartbeats 2000000
/-! ZTupD: tuple(d), d a dict whose keys are texts or ints. -/
namespace Z
open PySem PySem.Spec PyProof.Rows L2
section
variable {prog : Program} {w : World} {A : Around} {E : Value → Shared → Prop} {s : Shared} {r d : Addr} {n : Nat} {P : Nat → Value → Prop} {OK : Heap → Prop}
end
end Z

set_option Elab.async false
set_option linter.all false
set_option maxRecDepth 100000
set_option maxHeartbeats 2000000
/-! ZSeq: enumerate, zip, a star in a display, slices, conversions, join and split, over cells. -/
namespace Z
open PySem PySem.Spec PyProof.Rows L2
open Evl (Ex Ex.refl Ex.trans Ex.new ex_rd ex_l ex_t sq_of st_of fresh_back sz_of sz_lt)
variable {K : PySem.W.Frag} {ρ ρ' ρ1 ρ2 ρ3 : Rho} {ta tb te : TE} {tx : TA} {d e x y : D} {ds es xs ys : List D}
/-! ### enumerate, zip -/
/-! ### a star in a display -/
/-! ### conversions -/
abbrev rTupOf (K : PySem.W.Frag) : List V → Hp → VK → Prop := fun xs H Q => ∃ p ys, xs = [.ref p] ∧ ((SqL K H p ys ∧ ∀ l, H l = none → Q (.ref l) (upd H l (.tup ys))) ∨ (SqT K H p ys ∧ Q (.ref p) H))
theorem ev_tupO {i : Nat} (h : ρ[i]? = some (.own ds)) : EvZ K (tCB (rTupOf K) (tCons (tVar i) tNil)) ρ ρ (.tup ds) := fun M G H σ S Q q => by
  obtain ⟨p, vs, e, m, gp, hp, dz⟩ := S.own h
  exact ⟨.ref p, e, p, vs, rfl, .inl ⟨sq_of hp, fun l hl => q _ _ _ (.new hl S.sub) (S.new hl) (.tup upd_same (dz.mono (Ex.new (fresh_back S.sub hl))))⟩⟩
abbrev rLstOf (K : PySem.W.Frag) : List V → Hp → VK → Prop := fun xs H Q => ∃ p ys, xs = [.ref p] ∧ (SqL K H p ys ∨ SqT K H p ys) ∧ ∀ l, H l = none → Q (.ref l) (upd H l (.lst ys))
theorem en_lstT (h : EvZ K te ρ ρ' (.tup ds)) : EvN K (tCB (rLstOf K) (tCons te tNil)) ρ ρ' ds := fun M G H σ S Q q =>
  h M G H σ S _ fun v G1 H1 g1 s1 dz => by
    obtain ⟨a, us, rfl, hs, hz⟩ := dz.tup_inv
    exact ⟨a, us, rfl, .inr (ex_t s1.sub hs), fun l hl => q l us G1 _ (g1.trans (.newO hl)) (s1.newO hl) (g1.d l hl) (fresh_back s1.sub hl) upd_same hz⟩
/-- the keys of a dict, in order -/
def keyD : Key → D
  | .inl i => .int i
  | .inr x => .str x
/-- keys other than the pair (0, 1) of the module's own -/
def NotZ (ks : List Key) : Prop := ks ≠ [Sum.inl 0, Sum.inl 1]
theorem NotZ.ne1 {ks : List Key} (h : NotZ ks) : ks.map keyD ≠ [.int 0, .int 1] := fun e => h (by
  match ks, e with
  | [.inl a, .inl b], e =>
    simp only [List.map_cons, List.map_nil, keyD, List.cons.injEq, D.int.injEq, and_true] at e
    rw [e.1, e.2]
  | [.inr a, .inl b], e => simp [keyD] at e
  | [.inl a, .inr b], e => simp [keyD] at e
  | [.inr a, .inr b], e => simp [keyD] at e)
theorem NotZ.ne {ks : List Key} (h : NotZ ks) : ks.map keyD ≠ [.int 0, .int 1] ∧ ¬ Heads (ks.map keyD) := ⟨h.ne1, by
  rintro ⟨es, r, e⟩
  cases ks with
  | nil => cases e
  | cons k ks =>
    rw [List.map_cons] at e
    injection e with e _
    cases k <;> cases e⟩
/-! ### slices -/
def cutD (xs : List D) (lo hi : Option Int) : List D := (xs.drop (HT.sIx xs.length 0 lo)).take (HT.sIx xs.length xs.length hi - HT.sIx xs.length 0 lo)
theorem dz_cut {H : Hp} {vs : List V} {lo hi : Option Int} (h : Dzs K H vs ds) : Dzs K H (cutV vs lo hi) (cutD ds lo hi) := by
  unfold cutV cutD
  rw [h.len]
  exact (h.drop _).take _


theorem en_slZ {tl th : TO} {lo hi : Option Int} (h : EvZ K te ρ ρ1 (.lst ds)) (h1 : PoZ K tl ρ1 ρ2 lo) (h2 : PoZ K th ρ2 ρ3 hi) : EvN K (tSl (rSlL K) te tl th) ρ ρ3 (cutD ds lo hi) := fun M G H σ S Q q =>
  h M G H σ S _ fun v G1 H1 g1 s1 dv => h1 M G1 H1 σ s1 _ fun G2 H2 g2 s2 => h2 M G2 H2 σ s2 _ fun G3 H3 g3 s3 => by
    obtain ⟨a, us, e, hs, hz⟩ := (dv.mono (g2.g.trans g3.g)).lst_inv
    have gg := (g1.trans g2).trans g3
    exact ⟨a, us, e, ex_l s3.sub hs, fun l hl => q l _ G3 _ (gg.trans (.newO hl)) (s3.newO hl) (gg.d l hl) (fresh_back s3.sub hl) upd_same (dz_cut hz)⟩
/-! ### texts and lists of texts -/
abbrev rSplit : V → List V → Hp → VK → Prop := fun x xs H Q => ∃ a b, x = .str a ∧ xs = [.str b] ∧ (b.length == 0) = false ∧ a.length + 2 ≤ sizeLine ∧ rNewStrs (Txt.split a b) H Q
abbrev rJoin (K : PySem.W.Frag) : V → List V → Hp → VK → Prop := fun x xs H Q => ∃ a p, ∃ ys : List Str, x = .str a ∧ xs = [.ref p] ∧ (SqL K H p (ys.map V.str) ∨ SqT K H p (ys.map V.str)) ∧
      (ys.map (·.length)).sum + ys.length * a.length ≤ 16777216 ∧ Q (.str (Txt.join a ys)) H
theorem dzs_strs {H : Hp} (zs : List Str) : Dzs K H (zs.map V.str) (zs.map D.str) := .of_strs zs
theorem en_split {a b : Str} (ha : EvZ K ta ρ ρ1 (.str a)) (hb : EvZ K tb ρ1 ρ2 (.str b)) (h0 : (b.length == 0) = false) (hl : a.length ≤ 90000) : EvN K (tM1 rSplit ta tb) ρ ρ2 ((Txt.split a b).map D.str) := fun M G H σ S Q q =>
  ha M G H σ S _ fun v G1 H1 g1 s1 dv => ⟨⟨a, dv.str_inv⟩, hb M G1 H1 σ s1 _ fun w G2 H2 g2 s2 dw => ⟨a, b, dv.str_inv, by rw [dw.str_inv], h0, sz_of (by omega), fun l hl => q l _ G2 _ ((g1.trans g2).trans (.newO hl)) (s2.newO hl) ((g1.trans g2).d l hl) (fresh_back s2.sub hl) upd_same (dzs_strs _)⟩⟩
theorem ev_join {a : Str} {zs : List Str} (ha : EvZ K ta ρ ρ1 (.str a)) (hb : RdZ K tb ρ1 ρ2 (.lst (zs.map D.str))) (hl : (zs.map (·.length)).sum + zs.length * a.length ≤ 90000) : EvZ K (tM1 (rJoin K) ta tb) ρ ρ2 (.str (Txt.join a zs)) := fun M G H σ S Q q =>
  ha M G H σ S _ fun v G1 H1 g1 s1 dv => ⟨⟨a, dv.str_inv⟩, hb M G1 H1 σ s1 _ fun w G2 H2 g2 s2 dw => by
    obtain ⟨p, us, rfl, hs, hz⟩ := dw.lst_inv
    have e := hz.strs
    subst e
    exact ⟨a, p, zs, dv.str_inv, rfl, .inl hs, by omega, q _ G2 H2 (g1.trans g2) s2 (.str _)⟩⟩
end Z

set_option Elab.async false
set_option linter.all false
set_option maxRecDepth 100000
set_option maxHeartbeats 4000000
/-! ZDcT: a dict comprehension whose keys are tuples of ints and texts. -/
namespace Z
open PySem PySem.Spec PyProof.Rows L2
section
variable {X : Cx}
/-- what a block of this def's asks of its parts -/
structure Parts (X : Cx) (scope : Scope) (tg : Expr) (ifs : List Expr) (kx vx : Expr) (g : TG) (tt : TT) (tk tv : TE) : Prop where
  g : ∀ (s : Shared) (H : Hp) (C : Addr) (cl : List (Str × Addr)) (fp : List Addr), PG (X.blk s H scope (compEnvC scope cl C X.env) fp) tg g
  t : ∀ (s : Shared) (H : Hp) (C : Addr) (cl : List (Str × Addr)) (fp : List Addr), PTs (X.blk s H scope (compEnvC scope cl C X.env) fp) ifs tt
  k : ∀ (s : Shared) (H : Hp) (C : Addr) (cl : List (Str × Addr)) (fp : List Addr), PE (X.blk s H scope (compEnvC scope cl C X.env) fp) kx tk
  v : ∀ (s : Shared) (H : Hp) (C : Addr) (cl : List (Str × Addr)) (fp : List Addr), PE (X.blk s H scope (compEnvC scope cl C X.env) fp) vx tv
end
end Z

set_option Elab.async false
set_option linter.all false
set_option maxRecDepth 100000
set_option maxHeartbeats 4000000
/-! ZSetS: len(set(xs)), xs a list of texts. -/
namespace Z
open PySem PySem.Spec PyProof.Rows L2
def addS (acc : List Str) (x : Str) : List Str := if x ∈ acc then acc else acc ++ [x]
/-- each text once, where it is met first -/
def met (xs : List Str) : List Str := xs.foldl addS []
section
variable {prog : Program} {w : World} {A : Around} {R : Result → Shared → Prop} {I : Addr} {fp wr : List Addr} {G : Array GenState → Array GenState → Prop} {n : Nat} {P : Nat → Value → Prop} {St : Nat → Shared → Prop}
/-- the set at S holds what of xs was met -/
abbrev Holds (prog : Program) (w : World) (h : Heap) (S : Addr) (xs : List Str) : Prop := h.SetOf (strKind prog w) S (fun k => (met xs).any (· == k)) (met xs).length
end
section
variable {prog : Program} {w : World} {A : Around} {E : Value → Shared → Prop} {s : Shared}
end
end Z

set_option Elab.async false
set_option linter.all false
set_option maxRecDepth 100000
set_option maxHeartbeats 2000000
/-! ZDict: dicts, fields, methods, new instances, over cells. -/
namespace Z
open PySem PySem.Spec PyProof.Rows L2
open Evl (Ex Ex.refl Ex.trans Ex.new ex_rd ex_l ex_t sq_of st_of fresh_back sz_of sz_lt)
section
variable {κ : Type} [DecidableEq κ]
def putD (kds : List (κ × D)) (k : κ) (v : D) : List (κ × D) :=
  if (kds.any fun kv => decide (kv.1 = k)) = true then kds.map (fun kv => if kv.1 = k then (kv.1, v) else kv) else kds ++ [(k, v)]
end
variable {K : PySem.W.Frag} {S : List Nat} {ρ ρ' ρ1 ρ2 ρ3 ρ4 : Rho} {ta tb td tk tv ty te : TE} {tt : TT} {g : TG} {tx : TA} {d e x y : D} {ds es rs : List D} {H : Hp}
/-! ### what stands at a key -/
theorem DzP.len : ∀ {xs : List (Key × V)} {kds : List (Key × D)}, DzP K H xs kds → xs.length = kds.length
  | _, _, .nil => rfl
  | _, _, .cons _ hs => congrArg (· + 1) hs.len
theorem DzT.len : ∀ {xs : List (List Key × V)} {kds : List (List Key × D)}, DzT K H xs kds → xs.length = kds.length
  | _, _, .nil => rfl
  | _, _, .cons _ hs => congrArg (· + 1) hs.len
theorem DzP.any (k : Key) : ∀ {xs : List (Key × V)} {kds : List (Key × D)}, DzP K H xs kds → (xs.any fun kv => decide (kv.1 = k)) = (kds.any fun kv => decide (kv.1 = k))
  | _, _, .nil => rfl
  | _, _, .cons _ hs => by rw [List.any_cons, List.any_cons, DzP.any k hs]
theorem DzT.any (k : List Key) : ∀ {xs : List (List Key × V)} {kds : List (List Key × D)}, DzT K H xs kds → (xs.any fun kv => decide (kv.1 = k)) = (kds.any fun kv => decide (kv.1 = k))
  | _, _, .nil => rfl
  | _, _, .cons _ hs => by rw [List.any_cons, List.any_cons, DzT.any k hs]
/-! ### looking up -/
/-! ### a dict of the frame's own -/
/-! ### fields -/
theorem DzF.look {f : Str} : ∀ {xs : List (Str × V)} {fs : List (Str × D)}, DzF K H xs fs → (∀ d, fs.lookup f = some d → ∃ v, xs.lookup f = some v ∧ Dz K H v d) ∧ (fs.lookup f = none → xs.lookup f = none)
  | _, _, .nil => ⟨fun d h => (by cases h), fun _ => rfl⟩
  | _, _, .cons (k := k) (v := v) (d := d) (xs := xs) (ds := fs) h hs => by
    have ih := DzF.look (f := f) hs
    rw [List.lookup_cons, List.lookup_cons]
    by_cases e : (f == k) = true
    · rw [e]
      exact ⟨fun d' z => by cases z; exact ⟨v, rfl, h⟩, fun z => by cases z⟩
    · have e' : (f == k) = false := by simpa using e
      rw [e']
      exact ih
theorem DzF.len : ∀ {xs : List (Str × V)} {fs : List (Str × D)}, DzF K H xs fs → xs.length = fs.length
  | _, _, .nil => rfl
  | _, _, .cons _ hs => congrArg (· + 1) hs.len
def putFD (f : Str) (d : D) : List (Str × D) → List (Str × D)
  | [] => [(f, d)]
  | (g, x) :: r => if g = f then (g, d) :: r else (g, x) :: putFD f d r
theorem DzF.put {f : Str} {v : V} {d : D} (hv : Dz K H v d) : ∀ {xs : List (Str × V)} {fs : List (Str × D)}, DzF K H xs fs → DzF K H (putF f v xs) (putFD f d fs)
  | _, _, .nil => .cons hv .nil
  | _, _, .cons (k := k) h hs => by
    unfold putF putFD
    by_cases e : k = f
    · rw [if_pos e, if_pos e]; exact .cons hv hs
    · rw [if_neg e, if_neg e]; exact .cons h (hs.put hv)
/-- a field of the frame's own instance -/
theorem ev_fldO {C : Addr} {f : Str} {fs : List (Str × D)} {i : Nat} (c : Cls K C) (n : NoAttr K C f) (h : ρ[i]? = some (.mu (.ins C fs))) (l : fs.lookup f = some d) : EvZ K (tFld K (tVar i) f) ρ ρ d := fun M G H σ S Q q => by
  obtain ⟨p, o, e, m, gp, hp, dz⟩ := S.mu h
  obtain ⟨dx, us, rfl, hz⟩ := mok_ins dz
  obtain ⟨u, e1, du⟩ := hz.look.1 d l
  exact ⟨.ref p, e, p, C, dx, us, u, rfl, hp, c, n, e1, q u G H .refl S du⟩
/-- self.f = e -/
theorem ex_fld {C : Addr} {f : Str} {fs0 fs : List (Str × D)} {i : Nat} (c : Cls K C) (n : NoAttr K C f) (hv : EvZ K tv ρ ρ1 d) (h : ρ1[i]? = some (.mu (.ins C fs))) (hl : fs.length < 1000) : ExZ K S (sFld K (tVar i) tv f) ρ (.nx (ρ1.set i (.mu (.ins C (putFD f d fs))))) := fun M G H σ E fr s q =>
  hv M G H σ s _ fun v G1 H1 g1 s1 dv => by
    obtain ⟨p, o, e, m, gp, hp, dz⟩ := s1.mu h
    obtain ⟨dx, us, rfl, hz⟩ := mok_ins dz
    exact ⟨.ref p, e, p, C, dx, us, rfl, hp, c, n, by rw [hz.len]; exact hl, q G1 _ σ (g1.trans (growM s1 h e)) .refl (s1.chU h e (n := .ins C (putFD f d fs)) ⟨rfl, hz.put dv⟩)⟩
/-! ### methods, new instances -/
end Z

set_option Elab.async false
set_option linter.all false
set_option maxRecDepth 100000
set_option maxHeartbeats 2000000
/-! ZDc: dict comprehensions over cells. -/
namespace Z
open PySem PySem.Spec PyProof.Rows L2
open Evl (Ex Ex.refl Ex.trans Ex.new ex_rd ex_l ex_t sq_of st_of fresh_back sz_of sz_lt)
variable {K : PySem.W.Frag} {ρ ρ' ρ1 ρ2 ρ3 : Rho} {tk tv te ta tb : TE} {tt : TT} {ds es : List D} {d : D}
/-- the items ds, one turn behind the other: acc becomes out -/
inductive CompDK (K : PySem.W.Frag) (g : TG) (tt : TT) (tk tv : TE) (vs A : List Nat) : List D → Rho → List (Key × D) → List (Key × D) → Rho → Prop
  | nil {ρ : Rho} {acc : List (Key × D)} : CompDK K g tt tk tv vs A [] ρ acc acc ρ
  | yes {ρ ρ1 ρ2 ρ3 ρ4 ρ5 : Rho} {d r : D} {k : Key} {ds : List D} {acc out : List (Key × D)} : TgZ K g A d ρ ρ1 → TsZ K tt ρ1 ρ2 true → EvZ K tk ρ2 ρ3 (keyD k) → EvZ K tv ρ3 ρ4 r → CompDK K g tt tk tv vs A ds (wipeR ρ4 vs) (putD acc k r) out ρ5 → CompDK K g tt tk tv vs A (d :: ds) ρ acc out ρ5
structure CWDK (K : PySem.W.Frag) (g : TG) (tt : TT) (tk tv : TE) (vs A : List Nat) (M : MS) (G1 H1 : Hp) (Dl : Addr) (σ : L2.St) (ds : List D) (out : List (Key × D)) (ρ' : Rho) (i : Nat) (H : Hp) : Prop where
  ex : ∃ G ρi acc vd, Grow (fun a => M a ∨ a = Dl) G1 H1 G H ∧ Sim K (fun a => M a ∧ a ≠ Dl) G H (L2.wipe σ vs) ρi ∧ CompDK K g tt tk tv vs A (ds.drop i) ρi acc out ρ' ∧ acc.length ≤ i ∧ G Dl = none ∧ H Dl = some (.dK vd) ∧ DzP K G vd acc
/-- the items ds, one turn behind the other: acc becomes out -/
inductive CompDT (K : PySem.W.Frag) (g : TG) (tt : TT) (tk tv : TE) (vs A : List Nat) : List D → Rho → List (List Key × D) → List (List Key × D) → Rho → Prop
  | nil {ρ : Rho} {acc : List (List Key × D)} : CompDT K g tt tk tv vs A [] ρ acc acc ρ
  | yes {ρ ρ1 ρ2 ρ3 ρ4 ρ5 : Rho} {d r : D} {k : List Key} {ds : List D} {acc out : List (List Key × D)} : TgZ K g A d ρ ρ1 → TsZ K tt ρ1 ρ2 true → EvZ K tk ρ2 ρ3 (D.tup (k.map keyD)) → NotZ k → EvZ K tv ρ3 ρ4 r → CompDT K g tt tk tv vs A ds (wipeR ρ4 vs) (putD acc k r) out ρ5 → CompDT K g tt tk tv vs A (d :: ds) ρ acc out ρ5
structure CWDT (K : PySem.W.Frag) (g : TG) (tt : TT) (tk tv : TE) (vs A : List Nat) (M : MS) (G1 H1 : Hp) (Dl : Addr) (σ : L2.St) (ds : List D) (out : List (List Key × D)) (ρ' : Rho) (i : Nat) (H : Hp) : Prop where
  ex : ∃ G ρi acc vd, Grow (fun a => M a ∨ a = Dl) G1 H1 G H ∧ Sim K (fun a => M a ∧ a ≠ Dl) G H (L2.wipe σ vs) ρi ∧ CompDT K g tt tk tv vs A (ds.drop i) ρi acc out ρ' ∧ acc.length ≤ i ∧ G Dl = none ∧ H Dl = some (.dT vd) ∧ DzT K G vd acc
end Z

set_option Elab.async false
set_option linter.all false
set_option maxRecDepth 100000
set_option maxHeartbeats 2000000
/-! ZObj: methods and constructors as relations of cells. -/
namespace Z
open PySem PySem.Spec PyProof.Rows L2
open Evl (Ex Ex.refl Ex.trans Ex.new ex_rd ex_l ex_t sq_of st_of fresh_back sz_of sz_lt)
/-- the method m of the class at C keeps the promise of R -/
structure Zmet (P : Program) (w : World) (K : PySem.W.Frag) (mg : Str → Option Value) (base : Heap) (k : Nat) (C : Addr) (m : Str) (ps : List Str) (R : Rel) : Prop where
  ex : ∃ (f : Addr) (fd : FuncData), FnOk P w K mg base CX0 k f fd ps (SpZ K R) ∧ Meth K C m f ∧ Binds K fd ps [] ∧ ∃ (oc : Value) (od : Option Addr) (osl : Array (Option Value)), K.lookup f = some ⟨oc, od, .func fd, osl⟩
/-- the class x, at C, makes its instances by an __init__ that keeps the promise of R -/
structure Zmak (P : Program) (w : World) (K : PySem.W.Frag) (mg : Str → Option Value) (base : Heap) (k : Nat) (x : Str) (C : Addr) (ps : List Str) (R : Rel) : Prop where
  ex : ∃ (f : Addr) (fd : FuncData), FnOk P w K mg base CX0 k f fd ps (SpZ K R) ∧ Mk K C f ∧ mg x = some (.ref C) ∧ Binds K fd ps []
section
variable {P : Program} {w : World} {K : PySem.W.Frag} {mg : Str → Option Value} {base : Heap} {x m qual : Str} {st : Stmt} {f C : Addr} {fd : FuncData} {N ps : List Str} {k n l : Nat} {t : TS} {S : List Nat}
theorem fn_z (F : Fun K x qual st f fd) (Sc : FnScope N ps (defScope st)) (hn : N.length = n) (hp : ps.length = l)
    (h : ∀ (cdv : Value) (A : Around) (outer : List Env) (s : Shared) (H : Hp) (E : XK), Room k (A.deeper (envOfC qual (defScope st) s.heap.objs.size f cdv)) → PSs (cxOf CX0 P w K mg base N qual (defScope st) f cdv A outer s H E).nox (defBody st) t) :
    FnOk P w K mg base CX0 (k + 1) f fd ps (SpZ K (RelOf K S t n l)) := by
  subst hn
  subst hp
  refine F.ok Sc (spz_len fun _ _ _ h => h.1) (fun cdv A outer s H vs Q E hr hsp => ⟨t, h cdv A outer s H E hr, body_z S hsp fun cs r cs' hR => ?_⟩)
  obtain ⟨hl, ρ', h1, h2⟩ := hR
  rw [hl]
  exact ⟨ρ', h1, h2⟩
theorem met_z (F : Fun K x qual st f fd) (hm : Meth K C m f) (Sc : FnScope N ps (defScope st)) (hn : N.length = n) (hp : ps.length = l) (b : Binds K fd ps [])
    (h : ∀ (cdv : Value) (A : Around) (outer : List Env) (s : Shared) (H : Hp) (E : XK), Room k (A.deeper (envOfC qual (defScope st) s.heap.objs.size f cdv)) → PSs (cxOf CX0 P w K mg base N qual (defScope st) f cdv A outer s H E).nox (defBody st) t) :
    Zmet P w K mg base (k + 1) C m ps (RelOf K S t n l) := ⟨f, fd, fn_z F Sc hn hp h, hm, b, Fun.look F⟩
theorem mak_z (F : Fun K m qual st f fd) (hm : Mk K C f) (hx : mg x = some (.ref C)) (Sc : FnScope N ps (defScope st)) (hn : N.length = n) (hp : ps.length = l) (b : Binds K fd ps [])
    (h : ∀ (cdv : Value) (A : Around) (outer : List Env) (s : Shared) (H : Hp) (E : XK), Room k (A.deeper (envOfC qual (defScope st) s.heap.objs.size f cdv)) → PSs (cxOf CX0 P w K mg base N qual (defScope st) f cdv A outer s H E).nox (defBody st) t) :
    Zmak P w K mg base (k + 1) x C ps (RelOf K S t n l) := ⟨f, fd, fn_z F Sc hn hp h, hm, hx, b⟩
end
section
variable {X : Cx} {k j : Nat} {x m : Str} {C : Addr} {ps : List Str} {R : Rel} {o e : Expr} {es : List Expr} {p pos apos : Pos} {to : TE} {t : TA}
theorem pe_methZ {pl : Sem Bool} (G : Zmet X.prog X.w X.K X.mg X.base k C m ps R) (c : Cls X.K C) (hr : Room j X.A) (hk : k ≤ j) (ho : PE X o to) (ha : PA X (e :: es) t)
    (hst : starEach (e :: es) X.env = (false, eval e X.env) :: starEach es X.env := by rfl) (hpl : (backTo pos (starEach es X.env)).any (·.1) = false := by rfl)
    (ht : eval (.Call (.Attribute o m apos) (e :: es) [] pos) X.env = (do
      let ov ← eval o X.env
      standAt apos.atName
      let (f, first) ← holding [ov] (getMethod ov m pl)
      callWith pos f first (backTo pos (starEach (e :: es) X.env)) (backToKw pos (keywordEach [] X.env))) := by rfl) :
    PE X (.Call (.Attribute o m apos) (e :: es) [] pos) (tMeth C m (SpZ X.K R) [] E0 to t) := by
  obtain ⟨f, fd, h1, h2, h3, _⟩ := G.ex
  exact pe_meth ho c h2 h1 (hr.mono hk) h3 .nil pass0 ha hst hpl ht
theorem pe_makeZ (G : Zmak X.prog X.w X.K X.mg X.base k x C ps R) (hr : Room j X.A) (hk : k + 1 ≤ j) (hg : Gl X x) (ha : PA X (e :: es) t) (hdb : (x == ("__debug__" : Str)) = false := by decide)
    (he : starEach (e :: es) X.env = (false, eval e X.env) :: starEach es X.env := by rfl) (hpl : (backTo pos (starEach es X.env)).any (·.1) = false := by rfl) :
    PE X (.Call (.Name x p) (e :: es) [] pos) (tMake C (SpZ X.K R) [] E0 t) := by
  obtain ⟨f, fd, h1, h2, h3, h4⟩ := G.ex
  exact pe_make h2 h1 (hr.mono hk) hg h3 h4 .nil pass0 ha hdb he hpl
end
/-! ### reversed -/
variable {K : PySem.W.Frag} {ρ ρ' : Rho} {te : TE} {ds : List D}
end Z

set_option Elab.async false
set_option linter.all false
set_option maxRecDepth 100000
set_option maxHeartbeats 2000000
/-! ZNum: great numbers (products, quotients of either sign, remainders), gcd, abs, max, texts of numbers, f-strings, while. -/
namespace Z
open PySem PySem.Spec PyProof.Rows L2
open Evl (Ex Ex.refl Ex.trans Ex.new ex_rd ex_l ex_t sq_of st_of fresh_back sz_of sz_lt)
variable {K : PySem.W.Frag} {S : List Nat} {ρ ρ' ρ1 ρ2 ρ3 : Rho} {ta tb tc te tl : TE} {tt tu : TT} {ts us : TS} {d e x y : D} {ds es xs ys rs : List D} {b c : Bool} {o : Out}
theorem ev_negI {i : Int} (ha : EvZ K ta ρ ρ1 (.int i)) : EvZ K (tUn (rU fun i => .int (-i)) ta) ρ ρ1 (.int (-i)) := fun M G H σ S Q q =>
  ha M G H σ S _ fun u G1 H1 g1 s1 du => ⟨i, du.int_inv, q _ G1 H1 g1 s1 (.int _)⟩
/-- str(n) -/
abbrev rStrI : List V → Hp → VK → Prop := fun xs H Q => ∃ i, xs = [.int i] ∧ i.natAbs.log2 < 1920 ∧ Q (.str (toString i)) H
theorem ev_strI {i : Int} (ha : EvZ K ta ρ ρ1 (.int i)) (hl : i.natAbs.log2 < 1920) : EvZ K (tCB rStrI (tCons ta tNil)) ρ ρ1 (.str (toString i)) := fun M G H σ S Q q =>
  ha M G H σ S _ fun u G1 H1 g1 s1 du => ⟨i, by rw [du.int_inv], hl, q _ G1 H1 g1 s1 (.str _)⟩
/-! ### while -/
inductive WhileZ (K : PySem.W.Frag) (S : List Nat) (tt : TT) (tb : TS) : Nat → Rho → Out → Prop
  | stop {n : Nat} {ρ ρ1 : Rho} : TsZ K tt ρ ρ1 false → WhileZ K S tt tb n ρ (.nx ρ1)
  | step {n : Nat} {ρ ρ1 ρ2 : Rho} {o : Out} : TsZ K tt ρ ρ1 true → ExZ K S tb ρ1 (.nx ρ2) → WhileZ K S tt tb n ρ2 o → WhileZ K S tt tb (n + 1) ρ o
  | cont {n : Nat} {ρ ρ1 ρ2 : Rho} {o : Out} : TsZ K tt ρ ρ1 true → ExZ K S tb ρ1 (.ct ρ2) → WhileZ K S tt tb n ρ2 o → WhileZ K S tt tb (n + 1) ρ o
  | brk {n : Nat} {ρ ρ1 ρ2 : Rho} : TsZ K tt ρ ρ1 true → ExZ K S tb ρ1 (.bk ρ2) → WhileZ K S tt tb n ρ (.nx ρ2)
  | ret {n : Nat} {ρ ρ1 ρ2 : Rho} {c : Cell} : TsZ K tt ρ ρ1 true → ExZ K S tb ρ1 (.rt ρ2 c) → WhileZ K S tt tb n ρ (.rt ρ2 c)
theorem ex_while {n : Nat} (h : WhileZ K S tt ts n ρ o) : ExZ K S (tWhile tt ts) ρ o := fun M G H σ E f s q => by
  refine ⟨fun m σ' H' => ∃ Gi ρi, Grow M G H Gi H' ∧ Keep S σ σ' ∧ Sim K M Gi H' σ' ρi ∧ WhileZ K S tt ts m ρi o, ⟨n, G, ρ, .refl, .refl, s, h⟩, ?_⟩
  rintro m σi Hi ⟨Gi, ρi, gi, ki, si, li⟩
  cases li with
  | stop t1 =>
    refine t1 M Gi Hi σi si _ fun G1 H1 g1 s1 => ?_
    rw [if_neg Bool.false_ne_true]
    exact q G1 H1 σi (gi.trans g1) ki s1
  | step t1 t2 t3 =>
    refine t1 M Gi Hi σi si _ fun G1 H1 g1 s1 => ?_
    rw [if_pos rfl]
    exact ⟨fun σ' H' => ∃ Gi ρi, Grow M G H Gi H' ∧ Keep S σ σ' ∧ Sim K M Gi H' σ' ρi ∧ WhileZ K S tt ts _ ρi o, fun σ' H' w => ⟨_, Nat.lt_succ_self _, w⟩, t2 M G1 H1 σi _ (f.grow (gi.trans g1)) s1 fun G3 H3 σ3 g3 k3 s3 => ⟨G3, _, (gi.trans g1).trans g3, ki.trans k3, s3, t3⟩⟩
  | cont t1 t2 t3 =>
    refine t1 M Gi Hi σi si _ fun G1 H1 g1 s1 => ?_
    rw [if_pos rfl]
    exact ⟨fun σ' H' => ∃ Gi ρi, Grow M G H Gi H' ∧ Keep S σ σ' ∧ Sim K M Gi H' σ' ρi ∧ WhileZ K S tt ts _ ρi o, fun σ' H' w => ⟨_, Nat.lt_succ_self _, w⟩, t2 M G1 H1 σi _ (f.grow (gi.trans g1)) s1 fun G3 H3 σ3 g3 k3 s3 => ⟨G3, _, (gi.trans g1).trans g3, ki.trans k3, s3, t3⟩⟩
  | brk t1 t2 =>
    refine t1 M Gi Hi σi si _ fun G1 H1 g1 s1 => ?_
    rw [if_pos rfl]
    exact ⟨fun _ _ => False, fun σ' H' w => w.elim, t2 M G1 H1 σi _ (f.grow (gi.trans g1)) s1 fun G3 H3 σ3 g3 k3 s3 => q G3 H3 σ3 ((gi.trans g1).trans g3) (ki.trans k3) s3⟩
  | ret t1 t2 =>
    refine t1 M Gi Hi σi si _ fun G1 H1 g1 s1 => ?_
    rw [if_pos rfl]
    exact ⟨fun _ _ => False, fun σ' H' w => w.elim, t2 M G1 H1 σi _ (f.grow (gi.trans g1)) s1 fun v G3 H3 σ3 g3 k3 s3 r3 => q v G3 H3 σ3 ((gi.trans g1).trans g3) (ki.trans k3) s3 r3⟩
end Z

set_option Elab.async false
set_option linter.all false
set_option maxRecDepth 100000
set_option maxHeartbeats 2000000
/-! ZMut: an instance that the frame alone changes: its methods, its fields, and how it is made. -/
namespace Z
open PySem PySem.Spec PyProof.Rows L2
open Evl (Ex Ex.refl Ex.trans Ex.new ex_rd ex_l ex_t sq_of st_of fresh_back sz_of sz_lt)
theorem pe_meth0Z {X : Cx} {k j : Nat} {m : Str} {C : Addr} {ps : List Str} {R : Rel} {o : Expr} {pos apos : Pos} {to : TE} {pl : Sem Bool} (G : Zmet X.prog X.w X.K X.mg X.base k C m ps R) (c : Cls X.K C) (hr : Room j X.A) (hk : k ≤ j) (ho : PE X o to)
    (ht : eval (.Call (.Attribute o m apos) [] [] pos) X.env = (do
      let v0 ← eval o X.env
      standAt apos.atName
      let (g, fst) ← holding [v0] (getMethod v0 m pl)
      callWith pos g fst (backTo pos (starEach [] X.env)) (backToKw pos (keywordEach [] X.env))) := by rfl) :
    PE X (.Call (.Attribute o m apos) [] [] pos) (tMeth C m (SpZ X.K R) [] E0 to tNil) := by
  obtain ⟨f, fd, h1, h2, h3, _⟩ := G.ex
  exact pe_meth0 ho c h2 h1 (hr.mono hk) h3 .nil pass0 ht
section
variable {K : PySem.W.Frag} {S : List Nat} {ρ ρ' ρ1 ρ2 : Rho} {ta tb te tv : TE} {tx : TA} {ds : List D} {d : D} {C : Addr} {m f : Str}
/-- o.m(..), o the frame's own instance in slot i -/
theorem ev_methM {R : Rel} {X : XK} {i : Nat} {fs0 fs1 fs2 : List (Str × D)} (h0 : ρ[i]? = some (.mu (.ins C fs0))) (nf : fs0.lookup m = none) (h : AgZ K tx ρ ρ1 ds) (h1 : ρ1[i]? = some (.mu (.ins C fs1))) (hR : R (.mu (.ins C fs1) :: ds.map .fr) (.fr d) (.mu (.ins C fs2) :: ds.map .fr)) :
    EvZ K (tMeth C m (SpZ K R) [] X (tVar i) tx) ρ (ρ1.set i (.mu (.ins C fs2))) d := fun M G H σ s Q q => by
  obtain ⟨p, o, e, mp, gp, hp, dz⟩ := s.mu h0
  obtain ⟨dx, us, rfl, hz⟩ := mok_ins dz
  have z := ev_callM (X := X) h0 h h1 hR M G H σ s Q q
  obtain ⟨v, ev, r⟩ := z
  rw [e] at ev
  cases ev
  exact ⟨.ref p, e, p, dx, us, rfl, hp, hz.look.2 nf, r⟩
/-- self.f op= e, numbers -/
theorem ex_fldaug {i : Nat} {fs : List (Str × D)} {rd : V → V → Hp → VK → Prop} {a b r : Int} (c : Cls K C) (n : NoAttr K C f) (h : ρ[i]? = some (.mu (.ins C fs))) (l : fs.lookup f = some (.int a)) (hv : EvZ K tv ρ ρ (.int b)) (hl : fs.length < 1000)
    (hr : ∀ H (Q : VK), Q (.int r) H → rd (.int a) (.int b) H Q) : ExZ K S (sFldAug K (tVar i) tv rd f) ρ (.nx (ρ.set i (.mu (.ins C (putFD f (.int r) fs))))) := fun M G H σ E fr s q => by
  obtain ⟨p, o, e, mp, gp, hp, dz⟩ := s.mu h
  obtain ⟨dx, us, rfl, hz⟩ := mok_ins dz
  obtain ⟨u, e1, du⟩ := hz.look.1 _ l
  refine ⟨.ref p, e, p, C, dx, us, u, rfl, hp, c, n, e1, hv M G H σ s _ fun v G1 H1 g1 s1 dv => ?_⟩
  rw [du.int_inv, dv.int_inv]
  obtain ⟨p', o', e', m', gp', hp', dz'⟩ := s1.mu h
  rw [e] at e'
  cases e'
  obtain ⟨dx', us', rfl, hz'⟩ := mok_ins dz'
  refine hr _ _ ⟨dx', us', hp', by rw [hz'.len]; exact hl, q G1 _ σ (g1.trans (growM s1 h e)) .refl (s1.chU h e (n := .ins C (putFD f (.int r) fs)) ⟨rfl, hz'.put (.int r)⟩)⟩
/-- an expression that makes a new instance -/
def EvI (K : PySem.W.Frag) (te : TE) (ρ ρ' : Rho) (C : Addr) (fs : List (Str × D)) : Prop := ∀ M G H σ, Sim K M G H σ ρ → ∀ Q : VK, (∀ p o G' H', Grow M G H G' H' → Sim K M G' H' σ ρ' → H p = none → G' p = none → H' p = some o → MOk K G' o (.ins C fs) → Q (.ref p) H') → te σ H Q
theorem ex_setI {i : Nat} {fs : List (Str × D)} (h : EvI K te ρ ρ1 C fs) (ho : OwnIn ρ1 ρ) (hi : i ∉ S) : ExZ K S (tAsg te (gName i)) ρ (.nx (ρ1.set i (.mu (.ins C fs)))) := fun M G H σ E f s q =>
  h M G H σ s _ fun p o G1 H1 g1 s1 hp gp h1 dv => q G1 H1 _ g1 (Keep.set hi) (s1.setO (o := o) (m := .ins C fs) (f p hp) gp h1 dv fun j es _ e => EvN.noOwn (vs := []) s s1 hp ho j es e)
theorem ei_make {fs : List (Str × D)} {R : Rel} {X : XK} (ha : AgZ K tx ρ ρ1 ds) (hR : R (.mu (.ins C []) :: ds.map .fr) (.fr .non) (.mu (.ins C fs) :: ds.map .fr)) : EvI K (tMake C (SpZ K R) [] X tx) ρ ρ1 C fs := fun M G H σ s0 Q q =>
  ha M G H σ s0 _ fun vs G1 H1 g1 s1 dv => fun p dx hp hdx ne => by
    rw [List.append_nil]
    have hx : (upd H1 dx (.own p)) p = none := by rw [upd_ne (Ne.symm ne)]; exact hp
    have s2 := (s1.newO (o := .own p) hdx).newO (o := .ins C dx []) hx
    have sa := sim_args (K := K) dv s2.sub
    have gp : G1 p = none := fresh_back s1.sub hp
    have st : Sim K (fun a => a = p) G1 (upd (upd H1 dx (.own p)) p (.ins C dx [])) ((V.ref p :: vs).map some) (.mu (.ins C []) :: ds.map .fr) := by
      refine ⟨by rw [List.map_cons, List.length_cons, List.length_cons, sa.len], s2.sub, fun {j d} h => ?_, fun {j d} h => ?_, fun {j k d e q} ne h2 h3 h4 h5 => ?_⟩
      · cases j with
        | zero => exact absurd (show some (Cell.mu (.ins C [])) = some (Cell.fr d) from h) (by simp)
        | succ j => exact sa.fr (i := j) h
      · cases j with
        | zero =>
          have z : some (Cell.mu (.ins C [])) = some (Cell.mu d) := h
          cases z
          exact ⟨p, _, rfl, rfl, gp, upd_same, ⟨rfl, .nil⟩⟩
        | succ j =>
          obtain ⟨_, _, _, z, _⟩ := sa.mu (i := j) h
          exact z.elim
      · cases j with
        | zero =>
          cases k with
          | zero => exact ne rfl
          | succ k =>
            obtain ⟨_, _, _, z, _⟩ := sa.mu (i := k) h3
            exact z.elim
        | succ j =>
          obtain ⟨_, _, _, z, _⟩ := sa.mu (i := j) h2
          exact z.elim
    refine ⟨fun a => a = p, G1, .mu (.ins C []) :: ds.map .fr, .fr .non, .mu (.ins C fs) :: ds.map .fr, st, hR, fun v G' H' g s r => ⟨Dz.non_inv r, ?_⟩⟩
    obtain ⟨p2, o2, eq2, m2, gp2, hp2, dz2⟩ := s.mu (i := 0) rfl
    have ep : p = p2 := by cases eq2; rfl
    subst ep
    have nw : ∀ (j : Nat) (es : MO), ρ1[j]? = some (.mu es) → σ[j]? ≠ some (some (.ref p)) := s1.noOwn hp
    have sσ : Sim K M G' H' σ ρ1 := s2.grow s.sub g.g fun q' es i e1 e2 => by
      have ne' : q' ≠ p := fun z => by subst z; exact nw i es e1 e2
      obtain ⟨q2, us, e', m, gq, hq, dq⟩ := s2.mu e1
      rw [e2] at e'
      cases e'
      exact ⟨(g.k q' _ ne' hq).trans hq.symm, g.n q' ne' (by rw [hq]; simp) gq⟩
    have gM : Grow M G1 H1 G' H' := by
      refine ⟨g.g, fun a o n e => ?_, fun a n e z => ?_, fun a z => ?_⟩
      · have n1 : a ≠ p := ne_of_none e hp
        have n2 : a ≠ dx := ne_of_none e hdx
        exact g.k a o n1 (by rw [upd_ne n1, upd_ne n2]; exact e)
      · have n1 : a ≠ p := fun y => by subst y; exact e hp
        have n2 : a ≠ dx := fun y => by subst y; exact e hdx
        exact g.n a n1 (by rw [upd_ne n1, upd_ne n2]; exact e) z
      · exact upd_none (upd_none (g.d a z))
    exact q p o2 G' H' (g1.trans gM) sσ (g1.d p hp) gp2 hp2 dz2
end
end Z

set_option Elab.async false
set_option linter.all false
set_option maxRecDepth 100000
set_option maxHeartbeats 2000000
/-! LawA: what the helpers of a law that draw from the script come to. -/
namespace Z
open PySem PySem.Spec PyProof.Rows L2
open Evl (Ex Ex.refl Ex.trans Ex.new ex_rd ex_l ex_t sq_of st_of fresh_back sz_of sz_lt)
def t__law_cell (K : PySem.W.Frag) : TS :=
  (tSeq (tIfS (tTest (tOp rLtI (tVar 1) (tCB (rLenX K) (tCons (tVar 0) tNil)))) (tRet (tCB rToInt (tCons (tOp (rIx K) (tVar 0) (tVar 1)) tNil))) tNext)
      (tRet (tC (.int 0))))

def b__law_digits_1 (K : PySem.W.Frag) : TS :=
  (tIfS (tTest (tOp rGtI (tVar 0) (tC (.int 0)))) (tSeq (tDrop (tBM K "list" rAppend (tVar 2) (tCons (tOp rModI (tCB rToInt (tCons (tVar 0) tNil)) (tC (.int 1000))) tNil)))
      (tAsg (tOp rDivI (tVar 0) (tC (.int 1000))) (gName 0))) tNext)
def b__law_digits_2 (K : PySem.W.Frag) : TS :=
  (tSeq (tAsg (tOp rModI (tCB rToInt (tCons (tOp rAddI (tOp rAddI (tOp rMulI (tVar 4) (tC (.int 16807))) (tOp rMulI (tC (.int 7)) (tVar 3))) (tC (.int 1))) tNil)) (tC (.int 2147483647))) (gName 4))
      (tDrop (tBM K "list" rAppend (tVar 2) (tCons (tOp rModI (tCB rToInt (tCons (tOp rDivI (tVar 4) (tC (.int 997))) tNil)) (tC (.int 1000))) tNil))))
def t__law_digits (K : PySem.W.Frag) : TS :=
  (tSeq (tAsg (tLst tNil) (gName 2))
      (tSeq (tIfS (tTest (tOp rLtI (tVar 0) (tC (.int 0)))) (tAsg (tOp rSubI (tC (.int 1)) (tOp rMulI (tC (.int 2)) (tVar 0))) (gName 0)) tNext)
      (tSeq (tIfS (tTest (tOp rGeI (tVar 0) (tOp rPowI (tC (.int 10)) (tC (.int 18))))) (tFor (iRng1 (tCons (tC (.int 60)) tNil)) (gName 3) (b__law_digits_1 K)) (tSeq (tAsg (tOp rModI (tCB rToInt (tCons (tOp rAddI (tOp rAddI (tOp rMulI (tVar 0) (tC (.int 48271))) (tOp rMulI (tVar 1) (tC (.int 69621)))) (tC (.int 11))) tNil)) (tC (.int 2147483647))) (gName 4))
      (tFor (iRng1 (tCons (tC (.int 60)) tNil)) (gName 3) (b__law_digits_2 K))))
      (tRet (tVar 2)))))

def t__law_box (K : PySem.W.Frag) (R__law_cell : Rel) (R__law_digits : Rel) : TS :=
  (tRet (tLst (tCons (tCall (SpZ K R__law_digits) [] E0 (tCons (tCall (SpZ K R__law_cell) [] E0 (tCons (tVar 0) (tCons (tVar 1) tNil))) (tCons (tVar 1) tNil))) (tCons (tC (.int 0)) tNil))))

def t__law_draw (K : PySem.W.Frag) : TS :=
  (tSeq (tAsg (tOp (rIx K) (tVar 0) (tC (.int 1))) (gName 2))
      (tSeq (tAsg (tOp rAddI (tVar 2) (tC (.int 1))) (gSub (tVar 0) (tC (.int 1)) rSetL))
      (tSeq (tIfS (tTest (tOp rLtI (tVar 2) (tCB (rLenX K) (tCons (tOp (rIx K) (tVar 0) (tC (.int 0))) tNil)))) (tRet (tOp rModI (tCB rToInt (tCons (tOp (rIx K) (tOp (rIx K) (tVar 0) (tC (.int 0))) (tVar 2)) tNil)) (tVar 1))) tNext)
      (tRet (tC (.int 0))))))

def t__law_is_integer (K : PySem.W.Frag) : TS :=
  (tRet (tAndV (tCB (rIsi K) (tCons (tVar 0) (tCons (tC (.ty "int")) tNil))) (tNotV (tCB (rIsi K) (tCons (tVar 0) (tCons (tC (.ty "bool")) tNil))))))

def e__law_same_1 (K : PySem.W.Frag) (R__law_is_integer : Rel) (R__law_same : Rel) : TE :=
  (tCall (SpZ K R__law_same) [] E0 (tCons (tOp (rIx K) (tVar 0) (tVar 2)) (tCons (tOp (rIx K) (tVar 1) (tVar 2)) tNil)))
def t__law_same (K : PySem.W.Frag) (R__law_is_integer : Rel) (R__law_same : Rel) : TS :=
  (tSeq (tIfS (tB (tCB (rIsi K) (tCons (tVar 1) (tCons (tC (.ty "tuple")) tNil)))) (tSeq (tIfS (tOr (tNot (tB (tCB (rIsi K) (tCons (tVar 0) (tCons (tC (.ty "tuple")) tNil))))) (tTest (tOp rNe (tCB (rLenX K) (tCons (tVar 0) tNil)) (tCB (rLenX K) (tCons (tVar 1) tNil))))) (tRet (tC (.bl false))) tNext)
      (tRet (tCB (rAll K) (tCons (tLc (iRng1 (tCons (tCB (rLenX K) (tCons (tVar 1) tNil)) tNil)) (gName 2) tYes (e__law_same_1 K R__law_is_integer R__law_same) [2]) tNil)))) tNext)
      (tSeq (tIfS (tB (tCB (rIsi K) (tCons (tVar 1) (tCons (tC (.ty "bool")) tNil)))) (tRet (tAndV (tCB (rIsi K) (tCons (tVar 0) (tCons (tC (.ty "bool")) tNil))) (tOp rEq (tVar 0) (tVar 1)))) tNext)
      (tSeq (tIfS (tB (tCB (rIsi K) (tCons (tVar 1) (tCons (tC (.ty "int")) tNil)))) (tRet (tAndV (tCall (SpZ K R__law_is_integer) [] E0 (tCons (tVar 0) tNil)) (tOp rEq (tVar 0) (tVar 1)))) tNext)
      (tSeq (tIfS (tB (tCB (rIsi K) (tCons (tVar 1) (tCons (tC (.ty "str")) tNil)))) (tRet (tAndV (tCB (rIsi K) (tCons (tVar 0) (tCons (tC (.ty "str")) tNil))) (tOp rEq (tVar 0) (tVar 1)))) tNext)
      (tRet (tAndV (tOp rIsN (tVar 0) (tC .non)) (tOp rIsN (tVar 1) (tC .non))))))))

def e_is_word_1 (K : PySem.W.Frag) (c_KEPT_WORDS : V) (c_LETTERS : V) (c_LONGEST_WORD : V) : TE :=
  (tOp rInSg (tVar 1) (tC c_LETTERS))
def t_is_word (K : PySem.W.Frag) (c_KEPT_WORDS : V) (c_LETTERS : V) (c_LONGEST_WORD : V) : TS :=
  (tSeq (tIfS (tOr (tTest (tOp (rIn K false) (tVar 0) (tC c_KEPT_WORDS))) (tNot (tTest (tChain rLeI rLeI (tC (.int 1)) (tCB (rLenX K) (tCons (tVar 0) tNil)) (tC c_LONGEST_WORD))))) (tRet (tC (.bl false))) tNext)
      (tRet (tCB (rAll K) (tCons (tLc (iStr (tVar 0)) (gName 1) tYes (e_is_word_1 K c_KEPT_WORDS c_LETTERS c_LONGEST_WORD) [1]) tNil))))

section
variable {K : PySem.W.Frag}
/-! ### _law_cell -/
def PreCell (cs : List Cell) : Prop := ∃ (ns : List Int) (k : Nat), cs = [.fr (.lst (ns.map .int)), .fr (.int (k : Int))]
def PostCell (cs : List Cell) (r : Cell) (cs' : List Cell) : Prop := cs' = cs ∧ ∃ i : Int, r = .fr (.int i)
theorem sem_cell : Spec (RelOf K [] (t__law_cell K) 2 2) PreCell PostCell := by
  rintro _ ⟨ns, k, rfl⟩
  have key : ∃ (i : Int) (ρ2 : Rho), ExZ K [] (t__law_cell K) [.fr (.lst (ns.map .int)), .fr (.int (k : Int))] (.rt ρ2 (.fr (.int i))) := by
    have ht := ts_test (ev_lt (K := K) (ρ := [.fr (.lst (ns.map .int)), .fr (.int (k : Int))]) (ev_var (i := 1) rfl) (ev_lenL (ev_var (i := 0) rfl).rd))
    by_cases h : k < ns.length
    · refine ⟨ns[k], _, ex_seqR (ex_ifT (ts_is ht ?_) (ex_ret (ev_toInt (ev_ixL (ev_var rfl) (ev_var rfl) (at_nat (j := k) ?_)))))⟩
      · rw [List.length_map]
        exact decide_eq_true (by omega)
      · rw [List.getElem?_map, List.getElem?_eq_getElem h]
        rfl
    · refine ⟨0, _, ex_seq (ex_ifF (ts_is ht ?_) ex_next) (ex_ret ev_int)⟩
      rw [List.length_map]
      exact decide_eq_false (by omega)
  obtain ⟨i, ρ2, h⟩ := key
  exact ⟨_, _, ⟨rfl, ρ2, .inl h, fin_fr (ds := [.lst (ns.map .int), .int (k : Int)])⟩, rfl, i, rfl⟩
/-! ### _law_digits -/
def Nn (ds : List Int) : Prop := ∀ d ∈ ds, 0 ≤ d
theorem Nn.snoc {ds : List Int} {d : Int} (h : Nn ds) (hd : 0 ≤ d) : Nn (ds ++ [d]) := fun x hx => by
  rcases List.mem_append.mp hx with hx | hx
  · exact h x hx
  · rcases List.mem_cons.mp hx with z | z
    · rw [z]; exact hd
    · cases z
def PreDig (cs : List Cell) : Prop := ∃ (c a : Int), cs = [.fr (.int c), .fr (.int a)] ∧ -1000000 ≤ a ∧ a ≤ 1000000
def PostDig (cs : List Cell) (r : Cell) (cs' : List Cell) : Prop := cs' = cs ∧ ∃ ds : List Int, Nn ds ∧ ds.length ≤ 60 ∧ r = .own (ds.map .int)
theorem map_snoc (ds : List Int) (d : Int) : ds.map D.int ++ [D.int d] = (ds ++ [d]).map D.int := by rw [List.map_append]; rfl
theorem dig_loop1 (a : Int) (sv : Cell) : ∀ (n m : Nat) (c : Int) (ds : List Int) (tv : Cell), 0 ≤ c → Nn ds → ds.length ≤ m → m + n ≤ 60 → ∃ c' ds' tv', 0 ≤ c' ∧ Nn ds' ∧ ds'.length ≤ 60 ∧
    LoopZ K [] (gName 3) (b__law_digits_1 K) [3] (rangeD (m : Int) n) [.fr (.int c), .fr (.int a), .own (ds.map .int), tv, sv] (.nx [.fr (.int c'), .fr (.int a), .own (ds'.map .int), tv', sv])
  | 0, m, c, ds, tv, hc, hn, hl, hm => ⟨c, ds, tv, hc, hn, by omega, .nil⟩
  | n + 1, m, c, ds, tv, hc, hn, hl, hm => by
    rw [rangeD_cons]
    have ht := ts_test (ev_gt (K := K) (ρ := [.fr (.int c), .fr (.int a), .own (ds.map .int), .fr (.int (m : Int)), sv]) (ev_var (i := 0) rfl) (ev_int (i := 0)))
    by_cases h : 0 < c
    · obtain ⟨c', ds', tv', h1, h2, h3, h4⟩ := dig_loop1 a sv n (m + 1) (c / 1000) (ds ++ [c % 1000]) (.fr (.int (m : Int))) (by omega) (hn.snoc (by omega)) (by rw [List.length_append]; show ds.length + 1 ≤ m + 1; omega) (by omega)
      refine ⟨c', ds', tv', h1, h2, h3, .step tg_name (ex_ifT (ts_is ht (decide_eq_true h)) (ex_seq (ex_app (i := 2) (ev_mod (ev_toInt (ev_var rfl)) ev_int (by decide)) rfl rfl (by rw [List.length_map]; omega)) (ex_set (i := 0) (ev_fdiv (ev_var rfl) ev_int ⟨by decide, by decide⟩) (by decide)))) ?_⟩
      rw [← map_snoc] at h4
      exact h4
    · obtain ⟨c', ds', tv', h1, h2, h3, h4⟩ := dig_loop1 a sv n (m + 1) c ds (.fr (.int (m : Int))) hc hn (by omega) (by omega)
      exact ⟨c', ds', tv', h1, h2, h3, .step tg_name (ex_ifF (ts_is ht (decide_eq_false h)) ex_next) h4⟩
theorem dig_loop2 (c a : Int) : ∀ (n m : Nat) (s : Int) (ds : List Int) (tv : Cell), 0 ≤ s → s < 2147483647 → Nn ds → ds.length ≤ m → m + n ≤ 60 → ∃ s' ds' tv', Nn ds' ∧ ds'.length ≤ 60 ∧
    LoopZ K [] (gName 3) (b__law_digits_2 K) [3] (rangeD (m : Int) n) [.fr (.int c), .fr (.int a), .own (ds.map .int), tv, .fr (.int s)] (.nx [.fr (.int c), .fr (.int a), .own (ds'.map .int), tv', .fr (.int s')])
  | 0, m, s, ds, tv, h0, h1, hn, hl, hm => ⟨s, ds, tv, hn, by omega, .nil⟩
  | n + 1, m, s, ds, tv, h0, h1, hn, hl, hm => by
    rw [rangeD_cons]
    have hs0 : 0 ≤ (s * 16807 + 7 * (m : Int) + 1) % 2147483647 := by omega
    have hs1 : (s * 16807 + 7 * (m : Int) + 1) % 2147483647 < 2147483647 := by omega
    obtain ⟨s', ds', tv', h2, h3, h4⟩ := dig_loop2 c a n (m + 1) ((s * 16807 + 7 * (m : Int) + 1) % 2147483647) (ds ++ [(s * 16807 + 7 * (m : Int) + 1) % 2147483647 / 997 % 1000]) (.fr (.int (m : Int))) hs0 hs1 (hn.snoc (by omega)) (by rw [List.length_append]; show ds.length + 1 ≤ m + 1; omega) (by omega)
    refine ⟨s', ds', tv', h2, h3, .step tg_name (ex_seq (ex_set (i := 4) (ev_mod (ev_toInt (ev_add (ev_add (ev_mul (ev_var rfl) ev_int (.inl ⟨by omega, by omega⟩)) (ev_mul ev_int (ev_var rfl) (.inl ⟨by decide, by decide⟩))) ev_int)) ev_int (by decide)) (by decide))
      (ex_app (i := 2) (ev_mod (ev_toInt (ev_fdiv (ev_var rfl) ev_int ⟨by decide, by decide⟩)) ev_int (by decide)) rfl rfl (by rw [List.length_map]; omega))) ?_⟩
    rw [← map_snoc] at h4
    exact h4
theorem sem_digits : Spec (RelOf K [] (t__law_digits K) 5 2) PreDig PostDig := by
  rintro _ ⟨c, a, rfl, ha, hb⟩
  have key : ∃ (ds : List Int) (ρ2 : Rho), Nn ds ∧ ds.length ≤ 60 ∧ ExZ K [] (t__law_digits K) [.fr (.int c), .fr (.int a), .no, .no, .no] (.rt ρ2 (.own (ds.map .int))) := by
    -- cell, made at least 0
    have h1 : ∃ c1 : Int, 0 ≤ c1 ∧ ExZ K [] (tIfS (tTest (tOp rLtI (tVar 0) (tC (.int 0)))) (tAsg (tOp rSubI (tC (.int 1)) (tOp rMulI (tC (.int 2)) (tVar 0))) (gName 0)) tNext) [.fr (.int c), .fr (.int a), .own [], .no, .no] (.nx [.fr (.int c1), .fr (.int a), .own [], .no, .no]) := by
      have ht := ts_test (ev_lt (K := K) (ρ := [.fr (.int c), .fr (.int a), .own [], .no, .no]) (ev_var (i := 0) rfl) (ev_int (i := 0)))
      by_cases h : c < 0
      · exact ⟨1 - 2 * c, by omega, ex_ifT (ts_is ht (decide_eq_true h)) (ex_set (i := 0) (ev_sub ev_int (ev_mul ev_int (ev_var rfl) (.inl ⟨by decide, by decide⟩))) (by decide))⟩
      · exact ⟨c, by omega, ex_ifF (ts_is ht (decide_eq_false h)) ex_next⟩
    obtain ⟨c1, hc1, h1⟩ := h1
    have ht := ts_test (ev_ge (K := K) (ρ := [.fr (.int c1), .fr (.int a), .own [], .no, .no]) (ev_var (i := 0) rfl) (ev_pow (ev_int (i := 10)) (ev_int (i := 18)) ⟨by decide, by decide, by decide⟩))
    by_cases h : (10 : Int) ^ (18 : Int).toNat ≤ c1
    · obtain ⟨c', ds', tv', h2, h3, h4, h5⟩ := dig_loop1 (K := K) a .no 60 0 c1 [] .no hc1 (fun _ z => by cases z) (Nat.le_refl 0) (Nat.le_refl 60)
      exact ⟨ds', _, h3, h4, ex_seq (ex_setN (i := 2) (en_lst ag_nil (by decide)) OwnIn.refl (by decide)) (ex_seq h1 (ex_seq (ex_ifT (ts_is ht (decide_eq_true h)) (ex_for (it_range1 (ag_cons ev_int ag_nil) ⟨by decide, by decide⟩) h5 (by decide))) (ex_retO (i := 2) rfl)))⟩
    · have hlt : c1 < 1000000000000000000 := by
        have e : (10 : Int) ^ (18 : Int).toNat = 1000000000000000000 := by decide
        rw [e] at h
        omega
      obtain ⟨s', ds', tv', h3, h4, h5⟩ := dig_loop2 (K := K) c1 a 60 0 ((c1 * 48271 + a * 69621 + 11) % 2147483647) [] .no (by omega) (by omega) (fun _ z => by cases z) (Nat.le_refl 0) (Nat.le_refl 60)
      exact ⟨ds', _, h3, h4, ex_seq (ex_setN (i := 2) (en_lst ag_nil (by decide)) OwnIn.refl (by decide)) (ex_seq h1 (ex_seq (ex_ifF (ts_is ht (decide_eq_false h)) (ex_seq (ex_set (i := 4) (ev_mod (ev_toInt (ev_add (ev_add (ev_mul (ev_var rfl) ev_int (.inl ⟨by omega, by omega⟩)) (ev_mul (ev_var rfl) ev_int (.inl ⟨by omega, by omega⟩))) ev_int)) ev_int (by decide)) (by decide)) (ex_for (it_range1 (ag_cons ev_int ag_nil) ⟨by decide, by decide⟩) h5 (by decide)))) (ex_retO (i := 2) rfl)))⟩
  obtain ⟨ds, ρ2, h1, h2, h3⟩ := key
  exact ⟨_, _, ⟨rfl, ρ2, .inl h3, fin_fr (ds := [.int c, .int a])⟩, rfl, ds, h1, h2, rfl⟩
/-! ### _law_box -/
def GoodBox (b : List D) : Prop := ∃ (ds : List Int) (p : Nat), Nn ds ∧ ds.length ≤ 60 ∧ b = [.lst (ds.map .int), .int (p : Int)]
def PreBox (cs : List Cell) : Prop := ∃ (ns : List Int) (k : Nat), cs = [.fr (.lst (ns.map .int)), .fr (.int (k : Int))] ∧ k ≤ 1000000
def PostBox (cs : List Cell) (r : Cell) (cs' : List Cell) : Prop := cs' = cs ∧ ∃ b, GoodBox b ∧ r = .own b
theorem sem_box {Rc Rd : Rel} (hc : Spec Rc PreCell PostCell) (hd : Spec Rd PreDig PostDig) : Spec (RelOf K [] (t__law_box K Rc Rd) 2 2) PreBox PostBox := by
  rintro _ ⟨ns, k, rfl, hk⟩
  obtain ⟨r1, cs1, h1, rfl, i, rfl⟩ := hc _ ⟨ns, k, rfl⟩
  obtain ⟨r2, cs2, h2, rfl, ds, hn, hl, rfl⟩ := hd _ ⟨i, (k : Int), rfl, by omega, by omega⟩
  refine ⟨_, _, ⟨rfl, _, .inl (ex_retN (en_lst (ag_cons (EvN.ev (en_callF (ds := [.int i, .int (k : Int)]) (ag_cons (ev_callF (ds := [.lst (ns.map .int), .int (k : Int)]) (ag_cons (ev_var rfl) (ag_cons (ev_var rfl) ag_nil)) h1) (ag_cons (ev_var rfl) ag_nil)) h2) OwnIn.refl) (ag_cons ev_int ag_nil)) (by show 2 ≤ 100000; decide))), fin_fr (ds := [.lst (ns.map .int), .int (k : Int)])⟩, rfl, _, ⟨ds, 0, hn, hl, rfl⟩, rfl⟩
/-! ### _law_draw -/
def PreDraw (cs : List Cell) : Prop := ∃ (b : List D) (m : Int), cs = [.own b, .fr (.int m)] ∧ GoodBox b ∧ 0 < m
def PostDraw (cs : List Cell) (r : Cell) (cs' : List Cell) : Prop := ∀ (b : List D) (m : Int), cs = [.own b, .fr (.int m)] → ∃ (v : Int) (b' : List D), cs' = [.own b', .fr (.int m)] ∧ GoodBox b' ∧ 0 ≤ v ∧ v < m ∧ r = .fr (.int v)
theorem sem_draw : Spec (RelOf K [0] (t__law_draw K) 3 2) PreDraw PostDraw := by
  rintro _ ⟨b, m, rfl, ⟨ds, p, hn, hl, rfl⟩, hm⟩
  have key : ∃ (v : Int) (ρ2 : Rho), 0 ≤ v ∧ v < m ∧ ρ2[0]? = some (.own [.lst (ds.map .int), .int ((p + 1 : Nat) : Int)]) ∧ ExZ K [0] (t__law_draw K) [.own [.lst (ds.map .int), .int (p : Int)], .fr (.int m), .no] (.rt ρ2 (.fr (.int v))) := by
    have s1 : ExZ K [0] (tAsg (tOp (rIx K) (tVar 0) (tC (.int 1))) (gName 2)) [.own [.lst (ds.map .int), .int (p : Int)], .fr (.int m), .no] (.nx [.own [.lst (ds.map .int), .int (p : Int)], .fr (.int m), .fr (.int (p : Int))]) :=
      ex_set (i := 2) (ev_ixO (i := 0) (k := 1) rfl ev_int rfl (by rfl)) (by decide)
    have s2 : ExZ K [0] (tAsg (tOp rAddI (tVar 2) (tC (.int 1))) (gSub (tVar 0) (tC (.int 1)) rSetL)) [.own [.lst (ds.map .int), .int (p : Int)], .fr (.int m), .fr (.int (p : Int))] (.nx [.own [.lst (ds.map .int), .int ((p : Int) + 1)], .fr (.int m), .fr (.int (p : Int))]) :=
      ex_setAt (i := 0) (k := 1) (j := 1) (ds := [.lst (ds.map .int), .int (p : Int)]) (ev_add (ev_var rfl) ev_int) ev_int rfl rfl (by rfl)
    have ht := ts_test (ev_lt (K := K) (ρ := [.own [.lst (ds.map .int), .int ((p : Int) + 1)], .fr (.int m), .fr (.int (p : Int))]) (ev_var (i := 2) rfl) (ev_lenL (ev_ixO (i := 0) (k := 0) rfl ev_int rfl (by rfl)).rd))
    by_cases h : p < ds.length
    · refine ⟨ds[p] % m, _, Int.emod_nonneg _ (by omega), Int.emod_lt_of_pos _ hm, rfl, ex_seq s1 (ex_seq s2 (ex_seqR (ex_ifT (ts_is ht ?_) (ex_ret (ev_mod (ev_toInt (ev_ixL (ev_ixO (i := 0) (k := 0) rfl ev_int rfl (by rfl)) (ev_var rfl) (at_nat (j := p) ?_))) (ev_var rfl) hm)))))⟩
      · rw [List.length_map]
        exact decide_eq_true (by omega)
      · rw [List.getElem?_map, List.getElem?_eq_getElem h]
        rfl
    · refine ⟨0, _, Int.le_refl 0, hm, rfl, ex_seq s1 (ex_seq s2 (ex_seq (ex_ifF (ts_is ht ?_) ex_next) (ex_ret ev_int)))⟩
      rw [List.length_map]
      exact decide_eq_false (by omega)
  obtain ⟨v, ρ2, h1, h2, h3, h4⟩ := key
  refine ⟨_, _, ⟨rfl, ρ2, .inl h4, fin_box (ds := [.int m]) (by decide) h3⟩, fun b m' e => ?_⟩
  cases e
  exact ⟨v, _, rfl, ⟨ds, p + 1, hn, hl, rfl⟩, h1, h2, rfl⟩
/-- a draw in a body: i the box's slot -/
theorem ev_draw {R : Rel} (hR : Spec R PreDraw PostDraw) {i : Nat} {ρ ρ1 : Rho} {te : TE} {b0 b : List D} {m : Int} (h0 : ρ[i]? = some (.own b0)) (h : EvZ K te ρ ρ1 (.int m)) (h1 : ρ1[i]? = some (.own b)) (hb : GoodBox b) (hm : 0 < m) :
    ∃ (v : Int) (b' : List D), 0 ≤ v ∧ v < m ∧ GoodBox b' ∧ EvZ K (tCall (SpZ K R) [] E0 (tCons (tVar i) (tCons te tNil))) ρ (ρ1.set i (.own b')) (.int v) := by
  obtain ⟨r, cs', hr, hp⟩ := hR _ ⟨b, m, rfl, hb, hm⟩
  obtain ⟨v, b', rfl, hb', h2, h3, rfl⟩ := hp b m rfl
  exact ⟨v, b', h2, h3, hb', ev_callB (ds := [.int m]) h0 (ag_cons h ag_nil) h1 hr⟩
end
end Z

set_option Elab.async false
set_option linter.all false
set_option maxRecDepth 100000
set_option maxHeartbeats 2000000
/-! LawB: _law_is_integer, _law_same, words, texts; the law k00. -/
namespace Z
open PySem PySem.Spec PyProof.Rows L2
open Evl (Ex Ex.refl Ex.trans Ex.new ex_rd ex_l ex_t sq_of st_of fresh_back sz_of sz_lt)
section
variable {K : PySem.W.Frag}
/-! ### _law_is_integer, _law_same -/
def isI : D → Bool
  | .int _ => true
  | _ => false
def PreInt (cs : List Cell) : Prop := ∃ d, cs = [.fr d] ∧ notIns d = true
def PostInt (cs : List Cell) (r : Cell) (cs' : List Cell) : Prop := cs' = cs ∧ ∀ d, cs = [.fr d] → r = .fr (.bl (isI d))
theorem sem_is_integer : Spec (RelOf K [] (t__law_is_integer K) 1 1) PreInt PostInt := by
  rintro _ ⟨d, rfl, hd⟩
  have key : ExZ K [] (t__law_is_integer K) [.fr d] (.rt [.fr d] (.fr (.bl (isI d)))) := by
    cases d with
    | non => exact ex_ret (ev_is (ev_andV (ev_isi (T := "int") (ev_var rfl) rfl) fun z => by cases z) rfl (d := .bl (false && false)))
    | bl b => exact ex_ret (ev_is (ev_andV (ev_isi (T := "int") (ev_var rfl) rfl) fun _ => ev_notV (ev_isi (T := "bool") (ev_var rfl) rfl)) rfl)
    | int i => exact ex_ret (ev_is (ev_andV (ev_isi (T := "int") (ev_var rfl) rfl) fun _ => ev_notV (ev_isi (T := "bool") (ev_var rfl) rfl)) rfl)
    | str x => exact ex_ret (ev_is (ev_andV (ev_isi (T := "int") (ev_var rfl) rfl) fun z => by cases z) rfl (d := .bl (false && false)))
    | lst l => exact ex_ret (ev_is (ev_andV (ev_isi (T := "int") (ev_var rfl) rfl) fun z => by cases z) rfl (d := .bl (false && false)))
    | tup l => exact ex_ret (ev_is (ev_andV (ev_isi (T := "int") (ev_var rfl) rfl) fun z => by cases z) rfl (d := .bl (false && false)))
    | dK l => exact ex_ret (ev_is (ev_andV (ev_isi (T := "int") (ev_var rfl) rfl) fun z => by cases z) rfl (d := .bl (false && false)))
    | dT l => exact ex_ret (ev_is (ev_andV (ev_isi (T := "int") (ev_var rfl) rfl) fun z => by cases z) rfl (d := .bl (false && false)))
    | ins C l => cases hd
    | rng _ _ => cases hd
    | tupf _ => cases hd
  exact ⟨_, _, ⟨rfl, _, .inl key, fin_fr (ds := [d])⟩, rfl, fun d' e => by cases e; rfl⟩
/-- data of tuples, texts, numbers, truth values, None, nested less than n deep -/
inductive Plain : Nat → D → Prop
  | non {n : Nat} : Plain (n + 1) .non
  | bl {n : Nat} (b : Bool) : Plain (n + 1) (.bl b)
  | int {n : Nat} (i : Int) : Plain (n + 1) (.int i)
  | str {n : Nat} (x : Str) : Plain (n + 1) (.str x)
  | tup {n : Nat} {ds : List D} : (∀ d ∈ ds, Plain n d) → ds.length ≤ 90000 → Plain (n + 1) (.tup ds)
def PreSame (n : Nat) (cs : List Cell) : Prop := ∃ d, cs = [.fr d, .fr d] ∧ Plain n d
def PostSame (cs : List Cell) (r : Cell) (cs' : List Cell) : Prop := cs' = cs ∧ r = .fr (.bl true)
theorem all_true {α : Type} (l : List α) : (l.map fun _ => true).all id = true := by
  induction l with
  | nil => rfl
  | cons a l ih => rw [List.map_cons, List.all_cons, ih]; rfl
theorem sem_same {Ri Rs : Rel} {n : Nat} (hi : Spec Ri PreInt PostInt) (hs : Spec Rs (PreSame n) PostSame) : Spec (RelOf K [] (t__law_same K Ri Rs) 3 2) (PreSame (n + 1)) PostSame := by
  rintro _ ⟨d, rfl, hd⟩
  have key : ∃ ρ2, ExZ K [] (t__law_same K Ri Rs) [.fr d, .fr d, .no] (.rt ρ2 (.fr (.bl true))) := by
    cases hd with
    | non =>
      exact ⟨_, ex_seq (ex_ifF (ts_B (ev_isi (T := "tuple") (ev_var rfl) rfl)) ex_next) (ex_seq (ex_ifF (ts_B (ev_isi (T := "bool") (ev_var rfl) rfl)) ex_next) (ex_seq (ex_ifF (ts_B (ev_isi (T := "int") (ev_var rfl) rfl)) ex_next)
        (ex_seq (ex_ifF (ts_B (ev_isi (T := "str") (ev_var rfl) rfl)) ex_next) (ex_ret (ev_is (ev_andV (ev_isN (ev_var rfl)) fun _ => ev_isN (ev_var rfl)) rfl)))))⟩
    | bl b =>
      exact ⟨_, ex_seq (ex_ifF (ts_B (ev_isi (T := "tuple") (ev_var rfl) rfl)) ex_next) (ex_seqR (ex_ifT (ts_B (ev_isi (T := "bool") (ev_var rfl) rfl)) (ex_ret (ev_is (ev_andV (ev_isi (T := "bool") (ev_var rfl) rfl) fun _ => ev_eqB (ev_var rfl) (ev_var rfl)) (by
        rw [decide_eq_true rfl]; rfl)))))⟩
    | int i =>
      obtain ⟨r, cs', hr, rfl, hv⟩ := hi _ ⟨.int i, rfl, rfl⟩
      obtain rfl := hv _ rfl
      exact ⟨_, ex_seq (ex_ifF (ts_B (ev_isi (T := "tuple") (ev_var rfl) rfl)) ex_next) (ex_seq (ex_ifF (ts_B (ev_isi (T := "bool") (ev_var rfl) rfl)) ex_next) (ex_seqR (ex_ifT (ts_B (ev_isi (T := "int") (ev_var rfl) rfl))
        (ex_ret (ev_is (ev_andV (ev_callF (ds := [.int i]) (ag_cons (ev_var rfl) ag_nil) hr) fun _ => ev_eqI (ev_var rfl) (ev_var rfl)) (by
        rw [decide_eq_true rfl]; rfl))))))⟩
    | str x =>
      exact ⟨_, ex_seq (ex_ifF (ts_B (ev_isi (T := "tuple") (ev_var rfl) rfl)) ex_next) (ex_seq (ex_ifF (ts_B (ev_isi (T := "bool") (ev_var rfl) rfl)) ex_next) (ex_seq (ex_ifF (ts_B (ev_isi (T := "int") (ev_var rfl) rfl)) ex_next)
        (ex_seqR (ex_ifT (ts_B (ev_isi (T := "str") (ev_var rfl) rfl)) (ex_ret (ev_is (ev_andV (ev_isi (T := "str") (ev_var rfl) rfl) fun _ => ev_eqS (ev_var rfl) (ev_var rfl)) (by
        rw [decide_eq_true rfl]; rfl)))))))⟩
    | @tup _ ds hds hl =>
      have hc : CompZ K (gName 2) tYes (e__law_same_1 K Ri Rs) [2] [2] (rangeD 0 ds.length) [.fr (.tup ds), .fr (.tup ds), .no] ((List.range ds.length).map fun _ => D.bl true) [.fr (.tup ds), .fr (.tup ds), .no] := by
        refine comp_mapA (K := K) (ρ := [.fr (.tup ds), .fr (.tup ds), .no]) (j := 2) (fun (i : Nat) => D.int (0 + (i : Int))) (fun _ => D.bl true) rfl (List.range ds.length) fun i hi' => ?_
        have hlt : i < ds.length := List.mem_range.mp hi'
        obtain ⟨r, cs', hr, rfl, rfl⟩ := hs _ ⟨ds[i], rfl, hds _ (List.getElem_mem hlt)⟩
        have ei : (0 : Int) + (i : Int) = (i : Int) := Int.zero_add _
        refine ev_callF (ds := [ds[i], ds[i]]) (ag_cons (ev_ixT (ev_var rfl) (ev_var rfl) (at_of ei (List.getElem?_eq_getElem hlt))) (ag_cons (ev_ixT (ev_var rfl) (ev_var rfl) (at_of ei (List.getElem?_eq_getElem hlt))) ag_nil)) hr
      refine ⟨[.fr (.tup ds), .fr (.tup ds), .no], ex_seqR (ex_ifT (ts_B (ev_isi (T := "tuple") (ev_var rfl) rfl)) (ex_seq (ex_ifF (ts_orF (ts_is (ts_not (b := true) (ts_B (ev_isi (T := "tuple") (ev_var rfl) rfl))) rfl) (ts_is (ts_test (ev_neI (ev_lenT (ev_var (ρ := [.fr (.tup ds), .fr (.tup ds), .no]) (i := 0) rfl).rd) (ev_lenT (ev_var (ρ := [.fr (.tup ds), .fr (.tup ds), .no]) (i := 1) rfl).rd))) ?_)) ex_next)
        (ex_ret (ev_is (ev_all (bs := (List.range ds.length).map fun _ => true) (EvN.rd ?_)) ?_))))⟩
      · rw [decide_eq_true rfl]; rfl
      · have h := en_lc (it_range1 (n := (ds.length : Int)) (ag_cons (ev_lenT (ev_var (ρ := [.fr (.tup ds), .fr (.tup ds), .no]) (i := 1) rfl).rd) ag_nil) ⟨by omega, by omega⟩) (ρ' := [.fr (.tup ds), .fr (.tup ds), .no]) (rs := (List.range ds.length).map fun _ => D.bl true) (A := [2]) (vs := [2]) (tt := tYes) (te := e__law_same_1 K Ri Rs) (g := gName 2)
          (by rw [Int.toNat_natCast]; exact hc) (by decide) (by rw [rangeD_len, Int.toNat_natCast]; omega)
        have e : ((List.range ds.length).map fun _ => true).map D.bl = (List.range ds.length).map fun _ => D.bl true := by rw [List.map_map]; rfl
        rw [e]
        exact h
      · rw [all_true]
  obtain ⟨ρ2, h⟩ := key
  exact ⟨_, _, ⟨rfl, ρ2, .inl h, fin_fr (ds := [d, d])⟩, rfl, rfl⟩
/-! ### words -/
def keptS : List Str := ["sum", "where", "in", "and"]
def letS : Str := "abcdefghijklmnopqrstuvwxyz"
def lettersB (z : Str) : Bool := (z.cps.toList.map fun c => decide (c ∈ letS.cps.toList)).all id
def wordB (z : Str) : Bool := !decide (z ∈ keptS) && (decide ((1 : Int) ≤ (z.length : Int)) && decide ((z.length : Int) ≤ 8)) && lettersB z
def PreWord (cs : List Cell) : Prop := ∃ z : Str, cs = [.fr (.str z)] ∧ z.length ≤ 90000
def PostWord (cs : List Cell) (r : Cell) (cs' : List Cell) : Prop := cs' = cs ∧ ∀ z, cs = [.fr (.str z)] → r = .fr (.bl (wordB z))
/-- all(letter in LETTERS for the signs of slot 0) -/
theorem ev_letters {te : TE} {z : Str} (hz : z.length ≤ 90000) (he : ∀ c : Nat, EvZ K te [.fr (.str z), .fr (.str ⟨#[c]⟩)] [.fr (.str z), .fr (.str ⟨#[c]⟩)] (.bl (decide (c ∈ letS.cps.toList)))) :
    EvZ K (tCB (rAll K) (tCons (tLc (iStr (tVar 0)) (gName 1) tYes te [1]) tNil)) [.fr (.str z), .no] [.fr (.str z), .no] (.bl (lettersB z)) := by
  have hc : CompZ K (gName 1) tYes te [1] [1] (signsD z) [.fr (.str z), .no] (z.cps.toList.map fun c => D.bl (decide (c ∈ letS.cps.toList))) [.fr (.str z), .no] :=
    comp_mapA (K := K) (ρ := [.fr (.str z), .no]) (j := 1) (fun c => D.str ⟨#[c]⟩) (fun c => D.bl (decide (c ∈ letS.cps.toList))) rfl z.cps.toList fun c _ => he c
  refine ev_all (bs := z.cps.toList.map fun c => decide (c ∈ letS.cps.toList)) (EvN.rd ?_)
  have e : (z.cps.toList.map fun c => decide (c ∈ letS.cps.toList)).map D.bl = z.cps.toList.map fun c => D.bl (decide (c ∈ letS.cps.toList)) := by rw [List.map_map]; rfl
  rw [e]
  refine en_lc (it_str (ev_var rfl)) hc (by decide) ?_
  unfold signsD
  rw [List.length_map]
  have : z.cps.toList.length = z.length := by simp [Str.length]
  omega
theorem sem_is_word {cK cL cM : V} (hk : ∀ H, DzR K H cK (.tup (keptS.map .str))) (hl : ∀ H, Dz K H cL (.str letS)) (hm : ∀ H, Dz K H cM (.int 8)) : Spec (RelOf K [] (t_is_word K cK cL cM) 2 1) PreWord PostWord := by
  rintro _ ⟨z, rfl, hz⟩
  have key : ∃ ρ2, ExZ K [] (t_is_word K cK cL cM) [.fr (.str z), .no] (.rt ρ2 (.fr (.bl (wordB z)))) := by
    have ht : TsZ K _ [.fr (.str z), .no] [.fr (.str z), .no] (decide (z ∈ keptS) || !(decide ((1 : Int) ≤ (z.length : Int)) && decide ((z.length : Int) ≤ 8))) :=
      ts_or (ts_test (ev_inT (K := K) (neg := false) (ev_var (i := 0) rfl) (rd_c hk))) fun _ => ts_not (ts_test (ev_chainI (p := fun i j => decide (i ≤ j)) (p' := fun i j => decide (i ≤ j)) ev_int (ev_lenS (ev_var (i := 0) rfl) (by omega)) (ev_c hm)))
    refine ex_when ht (fun h => ⟨[.fr (.str z), .no], ?_⟩) (fun h => ⟨[.fr (.str z), .no], ?_⟩)
    · have e : wordB z = false := by
        unfold wordB
        revert h
        cases decide (z ∈ keptS) <;> cases decide ((1 : Int) ≤ (z.length : Int)) <;> cases decide ((z.length : Int) ≤ 8) <;> simp
      rw [e]
      exact ex_ret ev_bl
    · have e : wordB z = lettersB z := by
        unfold wordB
        revert h
        cases decide (z ∈ keptS) <;> cases decide ((1 : Int) ≤ (z.length : Int)) <;> cases decide ((z.length : Int) ≤ 8) <;> simp
      rw [e]
      exact ex_ret (ev_letters hz fun c => ev_inSg (ev_var rfl) (ev_c hl))
  obtain ⟨ρ2, h⟩ := key
  exact ⟨_, _, ⟨rfl, ρ2, .inl h, fin_fr (ds := [.str z])⟩, rfl, fun z' e => by cases e; rfl⟩
end
end Z

set_option Elab.async false
set_option linter.all false
set_option maxRecDepth 100000
set_option maxHeartbeats 2000000
/-! LawC: _law_a_text; the law k00. -/
namespace Z
open PySem PySem.Spec PyProof.Rows L2
open Evl (Ex Ex.refl Ex.trans Ex.new ex_rd ex_l ex_t sq_of st_of fresh_back sz_of sz_lt)
section
variable {K : PySem.W.Frag}
theorem atI_has {α : Type} {xs : List α} {i : Int} (h0 : 0 ≤ i) (h1 : i < (xs.length : Int)) : ∃ x, atI xs i = some x ∧ x ∈ xs := by
  have hlt : i.toNat < xs.length := by omega
  refine ⟨xs[i.toNat], ?_, List.getElem_mem hlt⟩
  have q := atI_nat (List.getElem?_eq_getElem hlt)
  rw [Int.toNat_of_nonneg h0] at q
  exact q
theorem len_cat (a b : Str) : (a ++ b).length = a.length + b.length := PySem.Str.length_append a b
theorem len_one (c : Nat) : (⟨#[c]⟩ : Str).length = 1 := rfl
theorem let_len : letS.cps.toList.length = 26 := by decide +kernel
/-! ### the law -/
section
variable {Rt Rb Rw Rs Ri : Rel}
end
end
end Z

set_option Elab.async false
set_option linter.all false
set_option maxRecDepth 100000
set_option maxHeartbeats 2000000
/-! ZItem: for x in xs where xs is now a list, now a tuple; sorted texts; min, max. -/
namespace L2
open PySem PySem.Spec PyProof.Rows
end L2
namespace Z
open PySem PySem.Spec PyProof.Rows L2
open Evl (Ex Ex.refl Ex.trans Ex.new ex_rd ex_l ex_t sq_of st_of fresh_back sz_of sz_lt)
variable {K : PySem.W.Frag} {ρ ρ' ρ1 ρ2 : Rho} {te ta tb tl : TE} {ds : List D}
/-- sorted(xs), texts; with what is known of every such answer -/
theorem en_sortedS {zs : List Str} (h : RdZ K te ρ ρ1 (.lst (zs.map D.str))) (hl : zs.length < 64) : ∀ (M : MS) G H σ, Sim K M G H σ ρ → ∀ Q : VK, (∀ p ys G' H', ys.Perm zs → sortedS ys = true → Grow M G H G' H' → Sim K M G' H' σ ρ1 → H p = none → G' p = none → H' p = some (.lst (ys.map V.str)) → Dzs K G' (ys.map V.str) (ys.map D.str) → Q (.ref p) H') → tCB (rSortedS K) (tCons te tNil) σ H Q := fun M G H σ S Q q =>
  h M G H σ S _ fun v G1 H1 g1 s1 dv => by
    obtain ⟨a, us, rfl, hs, hz⟩ := dv.lst_inv
    have e := hz.strs
    subst e
    exact ⟨a, zs, rfl, hs, hl, fun ys p hp hso hn => q p ys G1 _ hp hso (g1.trans (.newO hn)) (s1.newO hn) (g1.d p hn) (fresh_back s1.sub hn) upd_same (dzs_strs _)⟩
theorem ev_min2 {i j : Int} (ha : EvZ K ta ρ ρ1 (.int i)) (hb : EvZ K tb ρ1 ρ2 (.int j)) : EvZ K (tCB (fun xs H Q => ∃ i j, xs = [.int i, .int j] ∧ Q (.int (if j < i then j else i)) H) (tCons ta (tCons tb tNil))) ρ ρ2 (.int (min i j)) := fun M G H σ S Q q =>
  ha M G H σ S _ fun u G1 H1 g1 s1 du => hb M G1 H1 σ s1 _ fun v G2 H2 g2 s2 dv => ⟨i, j, by rw [du.int_inv, dv.int_inv], by
    have e : (if j < i then j else i) = min i j := by split <;> omega
    rw [e]
    exact q _ G2 H2 (g1.trans g2) s2 (.int _)⟩
/-- a relation of cells, that stands for more than one answer: a step with one of them known -/
theorem Sim.forget {M : MS} {G H : Hp} {σ : L2.St} (S : Sim K M G H σ ρ) (hl : ρ'.length = ρ.length) (h : ∀ (i : Nat) (c : Cell), ρ'[i]? = some c → c = .no ∨ ρ[i]? = some c) : Sim K M G H σ ρ' where
  len := by rw [hl]; exact S.len
  sub := S.sub
  fr := fun {i d} e => by
    rcases h i _ e with z | z
    · cases z
    · exact S.fr z
  mu := fun {i m} e => by
    rcases h i _ e with z | z
    · cases z
    · exact S.mu z
  apart := fun {i j m n p} ne e1 e2 e3 => by
    rcases h i _ e1 with z | z
    · cases z
    rcases h j _ e2 with y | y
    · cases y
    exact S.apart ne z y e3
end Z

set_option Elab.async false
set_option linter.all false
set_option maxRecDepth 100000
set_option maxHeartbeats 2000000
/-! ZCall2: a call with two lists of the frame's own; equalities. -/
namespace Z
open PySem PySem.Spec PyProof.Rows L2
open Evl (Ex Ex.refl Ex.trans Ex.new ex_rd ex_l ex_t sq_of st_of fresh_back sz_of sz_lt)
variable {K : PySem.W.Frag} {ρ ρ' ρ1 ρ2 : Rho} {te ta tb : TE} {d : D}
theorem ev_callMT {R : Rel} {X : XK} {i j : Nat} {b1 b2 t : MO} (hij : i ≠ j) (h0 : ρ[i]? = some (.mu b1)) (h1 : ρ[j]? = some (.mu t)) (hR : R [.mu b1, .mu t] (.fr d) [.mu b2, .mu t]) : EvZ K (tCall (SpZ K R) [] X (tCons (tVar i) (tCons (tVar j) tNil))) ρ (ρ.set i (.mu b2)) d := fun M G H σ S Q q => by
  obtain ⟨p, o1, e1, m1, g1, hp1, k1⟩ := S.mu h0
  obtain ⟨r, o2, e2, m2, g2, hp2, k2⟩ := S.mu h1
  have pr : p ≠ r := fun z => by subst z; exact S.apart hij h0 h1 e1 e2
  refine ⟨.ref p, e1, .ref r, e2, ?_⟩
  show SpZ K R ([V.ref p, V.ref r] ++ []) H Q X
  have s0 : Sim K (fun a => a = p ∨ a = r) G H ([V.ref p, V.ref r].map some) [.mu b1, .mu t] := by
    refine ⟨rfl, S.sub, fun {k d} h => ?_, fun {k d} h => ?_, fun {k k2 x y q} ne a1 a2 a3 a4 => ?_⟩
    · match k, h with
      | 0, h | 1, h => simp at h
      | k + 2, h => simp at h
    · match k, h with
      | 0, h => cases h; exact ⟨p, o1, rfl, .inl rfl, g1, hp1, k1⟩
      | 1, h => cases h; exact ⟨r, o2, rfl, .inr rfl, g2, hp2, k2⟩
      | k + 2, h => simp at h
    · match k, k2, a1, a2 with
      | 0, 0, _, _ => exact ne rfl
      | 1, 1, _, _ => exact ne rfl
      | 0, 1, _, _ => cases a3; cases a4; exact pr rfl
      | 1, 0, _, _ => cases a3; cases a4; exact pr rfl
      | k + 2, _, a1, _ => simp at a1
      | 0, k + 2, _, a2 => simp at a2
      | 1, k + 2, _, a2 => simp at a2
  refine ⟨fun a => a = p ∨ a = r, G, _, .fr d, _, s0, hR, fun v G' H' g s rs => ?_⟩
  have gM : Grow M G H G' H' := g.wk fun a _ z => by
    rcases z with z | z
    · rw [z]; exact m1
    · rw [z]; exact m2
  obtain ⟨p', o1', e1', _, g1', hp1', k1'⟩ := s.mu (i := 0) rfl
  obtain ⟨r', o2', e2', _, g2', hp2', k2'⟩ := s.mu (i := 1) rfl
  cases e1'
  cases e2'
  have at_ : ∀ {k : Nat} {m : MO}, (ρ.set i (.mu b2))[k]? = some (.mu m) → ∃ m', ρ[k]? = some (.mu m') := fun {k m} h => by
    rcases get_set h with ⟨ek, _, _⟩ | ⟨_, h⟩
    · rw [← ek]; exact ⟨_, h0⟩
    · exact ⟨_, h⟩
  refine q v G' H' gM ⟨by rw [List.length_set]; exact S.len, s.sub, fun {k x} h => ?_, fun {k x} h => ?_, fun {k k2 x y w} ne a1 a2 a3 => ?_⟩ rs
  · rcases get_set h with ⟨_, z, _⟩ | ⟨_, h⟩
    · cases z
    · obtain ⟨w, a1, a2⟩ := S.fr h
      exact ⟨w, a1, a2.mono g.g⟩
  · rcases get_set h with ⟨ek, z, _⟩ | ⟨ek, h⟩
    · subst ek
      cases z
      exact ⟨p, o1', e1, m1, g1', hp1', k1'⟩
    · by_cases ej : k = j
      · subst ej
        rw [h1] at h
        cases h
        exact ⟨r, o2', e2, m2, g2', hp2', k2'⟩
      · obtain ⟨w, ow, b1, b2, b3, b4, b5⟩ := S.mu h
        have n1 : w ≠ p := fun z => by subst z; exact S.apart ek h0 h e1 b1
        have n2 : w ≠ r := fun z => by subst z; exact S.apart (fun z => ej z.symm) h1 h e2 b1
        have nn : ¬ (w = p ∨ w = r) := fun z => z.elim n1 n2
        exact ⟨w, ow, b1, b2, g.n w nn (by rw [b4]; simp) b3, g.k w _ nn b4, b5.mono g.g⟩
  · obtain ⟨x', a1⟩ := at_ a1
    obtain ⟨y', a2⟩ := at_ a2
    exact S.apart ne a1 a2 a3
theorem fin_mu2 {S : List Nat} {ρ' : Rho} {d : D} {b b' t : MO} (h0 : 0 ∈ S) (h1 : 1 ∈ S) (e0 : ρ'[0]? = some (.mu b')) (e1 : ρ'[1]? = some (.mu t)) : FinZ S [.mu b, .mu t] [.mu b', .mu t] ρ' (.fr d) := by
  refine ⟨rfl, fun i es h => ?_, fun i d h => ?_, fun _ z => (by cases z)⟩
  · match i, h with
    | 0, h => cases h; exact ⟨h0, e0, _, rfl⟩
    | 1, h => cases h; exact ⟨h1, e1, _, rfl⟩
    | i + 2, h => simp at h
  · match i, h with
    | 0, h | 1, h => cases h
    | i + 2, h => simp at h
/-! ### equalities -/
theorem ev_neB {i j : Bool} (ha : EvZ K ta ρ ρ1 (.bl i)) (hb : EvZ K tb ρ1 ρ2 (.bl j)) : EvZ K (tOp rNe ta tb) ρ ρ2 (.bl (!decide (i = j))) :=
  ev_op ha hb.rd fun u v G H Q _ du dv q => by
    rw [du.bl_inv, dv.bl_inv]
    exact ⟨rfl, q _ (by rw [show decide (V.bl i = V.bl j) = decide (i = j) by simp]; exact .bl _)⟩
/-- xs + ys, two new lists -/
theorem en_cat {ds es : List D} (h : EvN K ta ρ ρ1 ds) (ho : OwnIn ρ1 ρ) (k : EvN K tb ρ1 ρ2 es) (hl : ds.length + es.length ≤ 90000) : EvN K (tOp rCat ta tb) ρ ρ2 (ds ++ es) := fun M G H σ S Q q =>
  h M G H σ S _ fun p vs G1 H1 g1 s1 hp gp hp1 dz => by
    have nw := EvN.noOwn (vs := vs) S s1 hp ho
    have s1' : Sim K (fun a => M a ∧ a ≠ p) G1 H1 σ ρ1 := s1.chMo fun r m i e1 e2 => by
      obtain ⟨r', o, e3, m', _⟩ := s1.mu e1
      rw [e2] at e3
      cases e3
      exact ⟨m', fun z => by subst z; exact nw i m e1 e2⟩
    refine k _ G1 H1 σ s1' _ fun r us G2 H2 g2 s2 hr gr hr2 dz2 => ?_
    have hp2 := g2.k p _ (fun z => z.2 rfl) hp1
    refine ⟨p, r, vs, us, rfl, rfl, hp2, hr2, sz_of (by rw [dz.len, dz2.len]; omega), fun l hl => ?_⟩
    have gg := g1.trans (g2.wk fun a _ z => z.1 : Grow M G1 H1 G2 H2)
    exact q l _ G2 _ (gg.trans (.newO hl)) ((s2.chM fun a _ z => z.1).newO hl) (gg.d l hl) (fresh_back s2.sub hl) upd_same ((dz.mono g2.g).app dz2)
end Z

set_option Elab.async false
set_option linter.all false
set_option maxRecDepth 100000
set_option maxHeartbeats 2000000
/-! ZNum2: lcm; a call with a list made for it and more arguments; comprehensions over tuples of names. -/
namespace Z
open PySem PySem.Spec PyProof.Rows L2
open Evl (Ex Ex.refl Ex.trans Ex.new ex_rd ex_l ex_t sq_of st_of fresh_back sz_of sz_lt)
variable {K : PySem.W.Frag} {S : List Nat} {ρ ρ' ρ1 ρ2 ρ3 : Rho} {ta tb tc te tl : TE} {tt tu : TT} {ts us : TS} {tr tx : TA} {d e x y : D} {ds es xs ys rs : List D} {b c : Bool} {o : Out}
theorem lcm_le_mul (a b : Nat) : Nat.lcm a b ≤ a * b := by
  unfold Nat.lcm
  exact Nat.div_le_self _ _
end Z

set_option Elab.async false
set_option linter.all false
set_option maxRecDepth 100000
set_option maxHeartbeats 2000000
/-! Tok: tokens of expressions. -/
namespace Z
open PySem PySem.Spec PyProof.Rows L2
open Evl (Ex Ex.refl Ex.trans Ex.new ex_rd ex_l ex_t sq_of st_of fresh_back sz_of sz_lt)
def t__run_of (K : PySem.W.Frag) (c_DIGITS : V) (c_LETTERS : V) : TS :=
  (tSeq (tIfS (tTest (tOp rInSg (tVar 0) (tC c_LETTERS))) (tRet (tC c_LETTERS)) tNext)
      (tRet (tIf (tTest (tOp rInSg (tVar 0) (tC c_DIGITS))) (tC c_DIGITS) (tC (.str "")))))

def b_tokens_1 (K : PySem.W.Frag) (R__run_of : Rel) : TS :=
  (tSeq (tAsg (tCall (SpZ K R__run_of) [] E0 (tCons (tVar 3) tNil)) (gName 4))
      (tSeq (tIfS (tAnd (tTruth K (tVar 4)) (tTest (tOp rEq (tVar 4) (tVar 2)))) (tAsg (tOp rCatS (tOp (rIx K) (tVar 1) (tUn (rU fun i => .int (-i)) (tC (.int 1)))) (tVar 3)) (gSub (tVar 1) (tUn (rU fun i => .int (-i)) (tC (.int 1))) rSetL)) (tIfS (tTest (tOp rNe (tVar 3) (tC (.str " ")))) (tDrop (tBM K "list" rAppend (tVar 1) (tCons (tVar 3) tNil))) tNext))
      (tAsg (tVar 4) (gName 2))))
def t_tokens (K : PySem.W.Frag) (R__run_of : Rel) : TS :=
  (tSeq (tAsg (tLst tNil) (gName 1))
      (tSeq (tAsg (tC (.str "")) (gName 2))
      (tSeq (tFor (iStr (tVar 0)) (gName 3) (b_tokens_1 K R__run_of))
      (tRet (tCB (rTupOf K) (tCons (tVar 1) tNil))))))

section
variable {K : PySem.W.Frag}
/-! ### tokens without the program -/
def digS : Str := "0123456789"
/-- 1: a letter; 2: a digit; 0: another sign -/
def kdN (c : Nat) : Nat := if c ∈ letS.cps.toList then 1 else if c ∈ digS.cps.toList then 2 else 0
abbrev strN (l : List Nat) : Str := ⟨l.toArray⟩
/-- the last token with one more sign -/
def appN (ts : List (List Nat)) (c : Nat) : List (List Nat) := ts.dropLast ++ [ts.getLastD [] ++ [c]]
def tokN : List (List Nat) → Nat → List Nat → List (List Nat)
  | ts, _, [] => ts
  | ts, k0, c :: cs => if kdN c ≠ 0 ∧ kdN c = k0 then tokN (appN ts c) (kdN c) cs else if c ≠ 32 then tokN (ts ++ [[c]]) (kdN c) cs else tokN ts (kdN c) cs
theorem kd32 : kdN 32 = 0 := by decide +kernel
theorem appN_snoc (ds : List (List Nat)) (l : List Nat) (c : Nat) : appN (ds ++ [l]) c = ds ++ [l ++ [c]] := by
  unfold appN
  rw [List.dropLast_concat, List.getLastD_concat]
def GoodTok (t : List Nat) : Prop := (∃ k, k ≠ 0 ∧ t ≠ [] ∧ ∀ c ∈ t, kdN c = k) ∨ ∃ c, t = [c] ∧ kdN c = 0 ∧ c ≠ 32
theorem tok_run (k : Nat) (hk : k ≠ 0) (rest : List Nat) : ∀ (cs : List Nat) (ds : List (List Nat)) (l : List Nat), (∀ c ∈ cs, kdN c = k) → tokN (ds ++ [l]) k (cs ++ rest) = tokN (ds ++ [l ++ cs]) k rest
  | [], ds, l, _ => by rw [List.append_nil]; rfl
  | c :: cs, ds, l, h => by
    have hc := h c List.mem_cons_self
    show tokN (ds ++ [l]) k (c :: (cs ++ rest)) = _
    rw [tokN, if_pos ⟨by rw [hc]; exact hk, hc⟩, appN_snoc, hc, tok_run k hk rest cs ds (l ++ [c]) fun x hx => h x (List.mem_cons_of_mem _ hx), List.append_assoc]
    rfl
/-- a good token is read whole; behind it stands its kind -/
theorem tok_one {t : List Nat} (h : GoodTok t) (ts : List (List Nat)) (rest : List Nat) : ∃ k, tokN ts 0 (t ++ rest) = tokN (ts ++ [t]) k rest := by
  rcases h with ⟨k, hk, hne, hc⟩ | ⟨c, rfl, h0, h32⟩
  · cases t with
    | nil => exact absurd rfl hne
    | cons c cs =>
      have hcc := hc c List.mem_cons_self
      have n32 : c ≠ 32 := fun z => by subst z; rw [kd32] at hcc; exact hk hcc.symm
      refine ⟨k, ?_⟩
      show tokN ts 0 (c :: (cs ++ rest)) = _
      rw [tokN, if_neg (fun z => by rw [hcc] at z; exact hk z.2), if_pos n32, hcc, tok_run k hk rest cs ts [c] fun x hx => hc x (List.mem_cons_of_mem _ hx)]
      rfl
  · refine ⟨0, ?_⟩
    show tokN ts 0 (c :: rest) = _
    rw [tokN, if_neg (fun z => z.1 h0), if_pos h32, h0]
/-- sizes -/
def sumL (ts : List (List Nat)) : Nat := (ts.map List.length).sum
theorem sumL_snoc (ts : List (List Nat)) (l : List Nat) : sumL (ts ++ [l]) = sumL ts + l.length := by unfold sumL; rw [List.map_append, List.sum_append]; simp
theorem last_split {ts : List (List Nat)} (h : ts ≠ []) : ∃ ds l, ts = ds ++ [l] := ⟨ts.dropLast, ts.getLast h, (List.dropLast_concat_getLast h).symm⟩
theorem tok_size : ∀ (cs : List Nat) (ts : List (List Nat)) (k0 : Nat), (k0 ≠ 0 → ts ≠ []) → sumL (tokN ts k0 cs) ≤ sumL ts + cs.length ∧ (tokN ts k0 cs).length ≤ ts.length + cs.length
  | [], ts, k0, _ => ⟨by show sumL ts ≤ _; omega, by show ts.length ≤ _; omega⟩
  | c :: cs, ts, k0, hk => by
    unfold tokN
    rw [List.length_cons]
    by_cases h1 : kdN c ≠ 0 ∧ kdN c = k0
    · rw [if_pos h1]
      obtain ⟨ds, l, rfl⟩ := last_split (hk (by rw [← h1.2]; exact h1.1))
      rw [appN_snoc]
      obtain ⟨a, b⟩ := tok_size cs (ds ++ [l ++ [c]]) (kdN c) (fun _ => by simp)
      rw [sumL_snoc, List.length_append] at *
      simp only [List.length_cons, List.length_nil] at *
      omega
    · rw [if_neg h1]
      by_cases h2 : c ≠ 32
      · rw [if_pos h2]
        obtain ⟨a, b⟩ := tok_size cs (ts ++ [[c]]) (kdN c) (fun _ => by simp)
        rw [sumL_snoc] at a
        rw [List.length_append] at b
        simp only [List.length_cons, List.length_nil] at *
        omega
      · rw [if_neg h2]
        have e : c = 32 := Classical.byContradiction h2
        subst e
        obtain ⟨a, b⟩ := tok_size cs ts (kdN 32) (fun z => absurd kd32 z)
        omega
/-! ### _run_of, tokens -/
def kS (k : Nat) : Str := if k = 1 then letS else if k = 2 then digS else ""
theorem kdN_le (c : Nat) : kdN c = 0 ∨ kdN c = 1 ∨ kdN c = 2 := by
  unfold kdN
  split
  · exact .inr (.inl rfl)
  · split
    · exact .inr (.inr rfl)
    · exact .inl rfl
def CRun (R : Rel) : Prop := ∀ c : Nat, R [.fr (.str (strN [c]))] (.fr (.str (kS (kdN c)))) [.fr (.str (strN [c]))]
theorem rel_run {cD cL : V} (hd : ∀ H, Dz K H cD (.str digS)) (hl : ∀ H, Dz K H cL (.str letS)) : CRun (RelOf K [] (t__run_of K cD cL) 1 1) := by
  intro c
  refine ⟨rfl, ?_⟩
  have t1 := ts_test (ev_inSg (K := K) (c := c) (ev_var (ρ := [.fr (.str (strN [c]))]) (i := 0) rfl) (ev_c hl))
  have t2 := ts_test (ev_inSg (K := K) (c := c) (ev_var (ρ := [.fr (.str (strN [c]))]) (i := 0) rfl) (ev_c hd))
  by_cases h1 : c ∈ letS.cps.toList
  · have e : kS (kdN c) = letS := by unfold kdN; rw [if_pos h1]; rfl
    rw [e]
    exact ⟨_, .inl (ex_seqR (ex_ifT (ts_is t1 (decide_eq_true h1)) (ex_ret (ev_c hl)))), fin_fr (ds := [.str (strN [c])])⟩
  · by_cases h2 : c ∈ digS.cps.toList
    · have e : kS (kdN c) = digS := by unfold kdN; rw [if_neg h1, if_pos h2]; rfl
      rw [e]
      exact ⟨_, .inl (ex_seq (ex_ifF (ts_is t1 (decide_eq_false h1)) ex_next) (ex_ret (ev_ifT (ts_is t2 (decide_eq_true h2)) (ev_c hd)))), fin_fr (ds := [.str (strN [c])])⟩
    · have e : kS (kdN c) = "" := by unfold kdN; rw [if_neg h1, if_neg h2]; rfl
      rw [e]
      exact ⟨_, .inl (ex_seq (ex_ifF (ts_is t1 (decide_eq_false h1)) ex_next) (ex_ret (ev_ifF (ts_is t2 (decide_eq_false h2)) ev_str))), fin_fr (ds := [.str (strN [c])])⟩
theorem ts_truthS {te : TE} {ρ ρ' : Rho} {z : Str} (h : EvZ K te ρ ρ' (.str z)) (hl : z.length ≤ 90000) : TsZ K (tTruth K te) ρ ρ' (decide (z.length ≠ 0)) := fun M G H σ S Q q => h M G H σ S _ fun v G1 H1 g1 s1 dv => ⟨_, by
  rw [dv.str_inv]
  refine ⟨sz_of (by omega), ?_⟩
  by_cases e : z.length = 0
  · rw [e]; rfl
  · rw [decide_eq_true e]
    exact (bne_iff_ne.mpr (by omega)).symm, q G1 H1 g1 s1⟩
theorem ev_neS {ta tb : TE} {ρ ρ1 ρ2 : Rho} {i j : Str} (ha : EvZ K ta ρ ρ1 (.str i)) (hb : EvZ K tb ρ1 ρ2 (.str j)) : EvZ K (tOp rNe ta tb) ρ ρ2 (.bl (!decide (i = j))) :=
  ev_op ha hb.rd fun u v G H Q _ du dv q => by
    rw [du.str_inv, dv.str_inv]
    exact ⟨rfl, q _ (by rw [show decide (V.str i = V.str j) = decide (i = j) by simp]; exact .bl _)⟩
theorem kS_ne (c : Nat) : decide ((kS (kdN c)).length ≠ 0) = decide (kdN c ≠ 0) := by
  rcases kdN_le c with e | e | e <;> rw [e] <;> decide +kernel
theorem kS_eq {a b : Nat} (ha : a = 0 ∨ a = 1 ∨ a = 2) (hb : b = 0 ∨ b = 1 ∨ b = 2) : decide (kS a = kS b) = decide (a = b) := by
  rcases ha with rfl | rfl | rfl <;> rcases hb with rfl | rfl | rfl <;> decide +kernel
def tkD (ts : List (List Nat)) : List D := ts.map fun t => .str (strN t)
theorem tkD_set (ds : List (List Nat)) (l m : List Nat) : (tkD (ds ++ [l])).set ds.length (.str (strN m)) = tkD (ds ++ [m]) := by
  unfold tkD
  rw [List.map_append, List.map_append, List.set_append_right _ _ (by simp)]
  simp
theorem strN_cat (l : List Nat) (c : Nat) : strN l ++ strN [c] = strN (l ++ [c]) := by
  show Str.mk (l.toArray ++ #[c]) = _
  simp
theorem strN_len (l : List Nat) : (strN l).length = l.length := by simp [Str.length]
theorem ix_last (n : Nat) : ixN (n + 1) (-1) = some n := by
  unfold ixN
  simp
  omega
theorem str32 (c : Nat) : decide (strN [c] = (" " : Str)) = decide (c = 32) := by
  have e : (" " : Str) = strN [32] := by decide +kernel
  rw [e]
  by_cases h : c = 32
  · subst h; rfl
  · rw [decide_eq_false h, decide_eq_false]
    intro z
    have := congrArg (fun s : Str => s.cps.toList) z
    simp at this
    exact h this
theorem len_sum {ts : List (List Nat)} {l : List Nat} (h : l ∈ ts) : l.length ≤ sumL ts := by
  unfold sumL
  induction ts with
  | nil => cases h
  | cons t ts ih =>
    rw [List.map_cons, List.sum_cons]
    rcases List.mem_cons.mp h with rfl | h
    · omega
    · have := ih h
      omega
/-- the step on an own list of tokens: the last one gets one more sign -/
theorem ex_more {S : List Nat} {ρ : Rho} {i : Nat} {ds : List (List Nat)} {l : List Nat} {c : Nat} {te : TE} (hi : ρ[i]? = some (.own (tkD (ds ++ [l])))) (he : EvZ K te ρ ρ (.str (strN [c]))) (hl : l.length ≤ 80000) :
    ExZ K S (tAsg (tOp rCatS (tOp (rIx K) (tVar i) (tUn (rU fun i => .int (-i)) (tC (.int 1)))) te) (gSub (tVar i) (tUn (rU fun i => .int (-i)) (tC (.int 1))) rSetL)) ρ (.nx (ρ.set i (.own (tkD (ds ++ [l ++ [c]]))))) := by
  have eneg : EvZ K (tUn (rU fun i => .int (-i)) (tC (.int 1))) ρ ρ (.int (-1)) := ev_negI ev_int
  have hlen : (tkD (ds ++ [l])).length = ds.length + 1 := by unfold tkD; rw [List.length_map, List.length_append]; rfl
  have hat : atI (tkD (ds ++ [l])) (-1) = some (.str (strN l)) := by
    unfold atI
    rw [hlen, ix_last]
    show (tkD (ds ++ [l]))[ds.length]? = _
    unfold tkD
    rw [List.getElem?_map, List.getElem?_append_right (Nat.le_refl _)]
    simp
  have hx := ex_setAt (K := K) (S := S) (i := i) (k := -1) (j := ds.length) (ev_catS (ev_ixO hi eneg hi hat) he (by rw [strN_len, strN_len]; show l.length + 1 ≤ _; omega)) eneg hi hi (by rw [hlen]; exact ix_last _)
  rw [strN_cat, tkD_set] at hx
  exact hx
theorem tkD_snoc (ts : List (List Nat)) (l : List Nat) : tkD ts ++ [.str (strN l)] = tkD (ts ++ [l]) := by unfold tkD; rw [List.map_append]; rfl
theorem tok_loop {Rr : Rel} (hr : CRun Rr) (c0 : Cell) : ∀ (cs : List Nat) (ts : List (List Nat)) (k0 : Nat) (sv kv : Cell), (k0 ≠ 0 → ts ≠ []) → (k0 = 0 ∨ k0 = 1 ∨ k0 = 2) → sumL ts + cs.length ≤ 80000 → ts.length + cs.length ≤ 80000 → ∃ k1 sv' kv',
    LoopZ K [] (gName 3) (b_tokens_1 K Rr) [3] (cs.map fun c => .str (strN [c])) [c0, .own (tkD ts), .fr (.str (kS k0)), sv, kv] (.nx [c0, .own (tkD (tokN ts k0 cs)), .fr (.str (kS k1)), sv', kv'])
  | [], ts, k0, sv, kv, _, _, _, _ => ⟨k0, sv, kv, .nil⟩
  | c :: cs, ts, k0, sv, kv, hk, hk3, hs, hn => by
    rw [List.length_cons] at hs hn
    have e1 : ExZ K [] (tAsg (tCall (SpZ K Rr) [] E0 (tCons (tVar 3) tNil)) (gName 4)) [c0, .own (tkD ts), .fr (.str (kS k0)), .fr (.str (strN [c])), kv] (.nx [c0, .own (tkD ts), .fr (.str (kS k0)), .fr (.str (strN [c])), .fr (.str (kS (kdN c)))]) :=
      ex_set (i := 4) (ev_callF (ds := [.str (strN [c])]) (ag_cons (ev_var rfl) ag_nil) (hr c)) (by decide)
    have kl : ∀ k, (kS k).length ≤ 90000 := fun k => by
      unfold kS
      split
      · decide +kernel
      · split <;> decide +kernel
    have t1 : TsZ K (tAnd (tTruth K (tVar 4)) (tTest (tOp rEq (tVar 4) (tVar 2)))) [c0, .own (tkD ts), .fr (.str (kS k0)), .fr (.str (strN [c])), .fr (.str (kS (kdN c)))] [c0, .own (tkD ts), .fr (.str (kS k0)), .fr (.str (strN [c])), .fr (.str (kS (kdN c)))] (decide (kdN c ≠ 0) && decide (kdN c = k0)) := by
      have a := ts_truthS (K := K) (ρ := [c0, .own (tkD ts), .fr (.str (kS k0)), .fr (.str (strN [c])), .fr (.str (kS (kdN c)))]) (ev_var (i := 4) rfl) (kl _)
      rw [kS_ne] at a
      refine ts_and a fun _ => ?_
      have b := ts_test (ev_eqS (K := K) (ρ := [c0, .own (tkD ts), .fr (.str (kS k0)), .fr (.str (strN [c])), .fr (.str (kS (kdN c)))]) (ev_var (i := 4) rfl) (ev_var (i := 2) rfl))
      rw [kS_eq (kdN_le c) hk3] at b
      exact b
    have e3 : ∀ ts', ExZ K [] (tAsg (tVar 4) (gName 2)) [c0, .own (tkD ts'), .fr (.str (kS k0)), .fr (.str (strN [c])), .fr (.str (kS (kdN c)))] (.nx [c0, .own (tkD ts'), .fr (.str (kS (kdN c))), .fr (.str (strN [c])), .fr (.str (kS (kdN c)))]) := fun ts' => ex_set (i := 2) (ev_var rfl) (by decide)
    rw [List.map_cons]
    by_cases h1 : kdN c ≠ 0 ∧ kdN c = k0
    · obtain ⟨ds, l, rfl⟩ := last_split (hk (by rw [← h1.2]; exact h1.1))
      have hl : l.length ≤ 80000 := by have := len_sum (ts := ds ++ [l]) (l := l) (by simp); omega
      obtain ⟨k1, sv', kv', lp⟩ := tok_loop hr c0 cs (ds ++ [l ++ [c]]) (kdN c) (.fr (.str (strN [c]))) (.fr (.str (kS (kdN c)))) (fun _ => by simp) (kdN_le c) (by rw [sumL_snoc] at *; rw [List.length_append]; simp only [List.length_cons, List.length_nil]; omega) (by rw [List.length_append] at *; simp only [List.length_cons, List.length_nil] at *; omega)
      refine ⟨k1, sv', kv', .step tg_name (ex_seq e1 (ex_seq (ex_ifT (ts_is t1 ?_) (ex_more (i := 1) rfl (ev_var (i := 3) rfl) hl)) (e3 _))) ?_⟩
      · rw [decide_eq_true h1.1, decide_eq_true h1.2]; rfl
      · rw [tokN, if_pos h1, appN_snoc]
        exact lp
    · have f1 : (decide (kdN c ≠ 0) && decide (kdN c = k0)) = false := by
        by_cases a : kdN c ≠ 0
        · rw [decide_eq_false (fun z => h1 ⟨a, z⟩), Bool.and_false]
        · rw [decide_eq_false a, Bool.false_and]
      have t2 := ts_test (ev_neS (K := K) (ρ := [c0, .own (tkD ts), .fr (.str (kS k0)), .fr (.str (strN [c])), .fr (.str (kS (kdN c)))]) (ev_var (i := 3) rfl) (ev_str (i := " ")))
      rw [str32] at t2
      by_cases h2 : c = 32
      · obtain ⟨k1, sv', kv', lp⟩ := tok_loop hr c0 cs ts (kdN c) (.fr (.str (strN [c]))) (.fr (.str (kS (kdN c)))) (fun z => by rw [h2, kd32] at z; exact absurd rfl z) (kdN_le c) (by omega) (by omega)
        refine ⟨k1, sv', kv', .step tg_name (ex_seq e1 (ex_seq (ex_ifF (ts_is t1 f1) (ex_ifF (ts_is t2 (by rw [decide_eq_true h2]; rfl)) ex_next)) (e3 _))) ?_⟩
        rw [tokN, if_neg h1, if_neg (fun z => z h2)]
        exact lp
      · obtain ⟨k1, sv', kv', lp⟩ := tok_loop hr c0 cs (ts ++ [[c]]) (kdN c) (.fr (.str (strN [c]))) (.fr (.str (kS (kdN c)))) (fun _ => by simp) (kdN_le c) (by rw [sumL_snoc]; simp only [List.length_cons, List.length_nil]; omega) (by rw [List.length_append]; simp only [List.length_cons, List.length_nil]; omega)
        have ea : ExZ K [] (tDrop (tBM K "list" rAppend (tVar 1) (tCons (tVar 3) tNil))) [c0, .own (tkD ts), .fr (.str (kS k0)), .fr (.str (strN [c])), .fr (.str (kS (kdN c)))] (.nx [c0, .own (tkD (ts ++ [[c]])), .fr (.str (kS k0)), .fr (.str (strN [c])), .fr (.str (kS (kdN c)))]) := by
          have q := ex_app (K := K) (S := []) (ρ := [c0, .own (tkD ts), .fr (.str (kS k0)), .fr (.str (strN [c])), .fr (.str (kS (kdN c)))]) (i := 1) (ev_var (i := 3) rfl) rfl rfl (by unfold tkD; rw [List.length_map]; omega)
          rw [tkD_snoc] at q
          exact q
        refine ⟨k1, sv', kv', .step tg_name (ex_seq e1 (ex_seq (ex_ifF (ts_is t1 f1) (ex_ifT (ts_is t2 (by rw [decide_eq_false h2]; rfl)) ea)) (e3 _))) ?_⟩
        rw [tokN, if_neg h1, if_pos h2]
        exact lp
def CTok (R : Rel) : Prop := ∀ z : Str, z.length ≤ 80000 → R [.fr (.str z)] (.fr (.tup (tkD (tokN [] 0 z.cps.toList)))) [.fr (.str z)]
theorem cps_len (z : Str) : z.cps.toList.length = z.length := by simp [Str.length]
theorem rel_tokens {Rr : Rel} (hr : CRun Rr) : CTok (RelOf K [] (t_tokens K Rr) 5 1) := by
  intro z hz
  obtain ⟨k1, sv, kv, lp⟩ := tok_loop (K := K) hr (.fr (.str z)) z.cps.toList [] 0 .no .no (fun h => absurd rfl h) (.inl rfl) (by rw [cps_len]; show 0 + z.length ≤ _; omega) (by rw [cps_len]; show 0 + z.length ≤ _; omega)
  exact ⟨rfl, _, .inl (ex_seq (ex_setN (i := 1) (en_lst ag_nil (by decide)) OwnIn.refl (by decide)) (ex_seq (ex_set (i := 2) ev_str (by decide)) (ex_seq (ex_for (it_str (ev_var rfl)) lp (by decide)) (ex_ret (ev_tupO (i := 1) rfl))))), fin_fr (ds := [.str z])⟩
end
end Z

set_option Elab.async false
set_option linter.all false
set_option maxRecDepth 100000
set_option maxHeartbeats 2000000
/-! SpR: readings of the program's own defs. -/
namespace Z
open PySem PySem.Spec PyProof.Rows L2
abbrev rMin2 : List V → Hp → VK → Prop := fun xs H Q => ∃ i j, xs = [.int i, .int j] ∧ Q (.int (if j < i then j else i)) H
end Z

set_option Elab.async false
set_option linter.all false
set_option maxRecDepth 100000
set_option maxHeartbeats 2000000
/-! SpA: paths and their words; words_of, start_of. -/
namespace Z
open PySem PySem.Spec PyProof.Rows L2
open Evl (Ex Ex.refl Ex.trans Ex.new ex_rd ex_l ex_t sq_of st_of fresh_back sz_of sz_lt)
def slS : Str := "/"
def pathS (ws : List Str) : Str := Txt.join slS ws
def GoodW (ws : List Str) : Prop := ∀ w ∈ ws, wordB w = true
def wordsS (z : Str) : List Str := if (z.length : Int) != 0 then Txt.split z slS else []
theorem word_len {w : Str} (h : wordB w = true) : 1 ≤ w.length ∧ w.length ≤ 8 := by
  unfold wordB at h
  rw [Bool.and_eq_true, Bool.and_eq_true, Bool.and_eq_true] at h
  have h1 := of_decide_eq_true h.1.2.1
  have h2 := of_decide_eq_true h.1.2.2
  omega
theorem word_letters {w : Str} (h : wordB w = true) : ∀ c ∈ w.cps.toList, c ∈ letS.cps.toList := by
  unfold wordB at h
  rw [Bool.and_eq_true] at h
  have h1 := h.2
  unfold lettersB at h1
  rw [List.all_eq_true] at h1
  intro c hc
  exact of_decide_eq_true (h1 _ (List.mem_map_of_mem hc))
theorem sl_not : ¬ (47 ∈ letS.cps.toList) := by decide +kernel
theorem word_sl {w : Str} (h : wordB w = true) : 47 ∉ TL.tl w := fun z => sl_not (word_letters h 47 z)
theorem len_tl (w : Str) : (TL.tl w).length = w.length := by
  show w.cps.toList.length = w.length
  simp [Str.length]
theorem path_len : ∀ {ws : List Str}, GoodW ws → (pathS ws).length ≤ 9 * ws.length := fun {ws} h => by
  show (Txt.join slS ws).length ≤ _
  rw [TL.join_eq]
  refine Nat.le_trans (StrLaws.join_length_le slS ws) ?_
  have e : slS.length = 1 := by decide +kernel
  rw [e]
  have : (ws.map (·.length)).sum ≤ 8 * ws.length := by
    induction ws with
    | nil => exact Nat.le_refl _
    | cons w ws ih =>
      rw [List.map_cons, List.sum_cons, List.length_cons]
      have := ih fun x hx => h x (List.mem_cons_of_mem _ hx)
      have := (word_len (h w List.mem_cons_self)).2
      omega
  omega
theorem path_nil : pathS [] = "" := by decide +kernel
theorem path_pos {w : Str} {ws : List Str} (h : GoodW (w :: ws)) : 1 ≤ (pathS (w :: ws)).length := by
  show 1 ≤ (Txt.join slS (w :: ws)).length
  rw [TL.join_eq]
  have h1 := (word_len (h w List.mem_cons_self)).1
  cases ws with
  | nil => exact h1
  | cons y ws =>
    show 1 ≤ (w ++ slS ++ Str.join slS (y :: ws)).length
    rw [len_cat, len_cat]
    omega
theorem words_path {ws : List Str} (h : GoodW ws) : wordsS (pathS ws) = ws := by
  cases ws with
  | nil => rw [path_nil]; rfl
  | cons w ws =>
    have hp := path_pos h
    unfold wordsS
    rw [if_pos (by simp; omega)]
    exact TL.split_join (s := 47) (S := []) (by decide +kernel) (by decide +kernel) (by simp) fun p hp => word_sl (h p hp)
theorem path_inj {ws us : List Str} (h : GoodW ws) (k : GoodW us) (e : pathS ws = pathS us) : ws = us := by
  rw [← words_path h, ← words_path k, e]
theorem GoodW.take {ws : List Str} (h : GoodW ws) (n : Nat) : GoodW (ws.take n) := fun w hw => h w (List.mem_of_mem_take hw)
section
variable {K : PySem.W.Frag} {ρ ρ1 : Rho} {ta : TE}
theorem ts_truB {b : Bool} (ha : EvZ K ta ρ ρ1 (.bl b)) : TsZ K (tTruth K ta) ρ ρ1 b := fun M G H σ S Q q =>
  ha M G H σ S _ fun v G1 H1 g1 s1 dv => ⟨_, by rw [dv.bl_inv]; exact rfl, q G1 H1 g1 s1⟩
/-! ### words_of, start_of -/
theorem map_cut {α : Type} (f : α → D) (xs : List α) (n : Nat) : cutD (xs.map f) none (some (n : Int)) = (xs.take n).map f := by
  unfold cutD
  have e0 : ∀ m, HT.sIx m 0 none = 0 := fun m => rfl
  rw [e0, List.drop_zero, Nat.sub_zero, List.length_map, ← List.map_take]
  have e1 : HT.sIx xs.length xs.length (some (n : Int)) = min n xs.length := by
    unfold HT.sIx
    simp
    try omega
  rw [e1]
  congr 1
  apply List.ext_getElem?
  intro i
  rw [List.getElem?_take, List.getElem?_take]
  by_cases h : i < n
  · by_cases h2 : i < xs.length
    · rw [if_pos (by omega), if_pos h]
    · rw [if_neg (by omega), if_pos h, List.getElem?_eq_none (by omega)]
  · rw [if_neg (by omega), if_neg h]
end
end Z

set_option Elab.async false
set_option linter.all false
set_option maxRecDepth 100000
set_option maxHeartbeats 2000000
/-! ZLk: a dict whose values are lists that the frame alone changes: d.setdefault(k, []).append(n) in loops, and {k: tuple(v) for k, v in d.items()} at the end. -/
namespace Z
open PySem PySem.Spec PyProof.Rows L2
open Evl (Ex Ex.refl Ex.trans Ex.new ex_rd ex_l ex_t sq_of st_of fresh_back sz_of sz_lt)
variable {K : PySem.W.Frag} {ρ ρ' ρ1 ρ2 : Rho} {te ta tb tl tk tv : TE} {ds : List D}
/-! ### a heap without one place -/
def del (H : Hp) (p : Addr) : Hp := fun a => if a = p then none else H a
theorem del_ne {H : Hp} {p a : Addr} (h : a ≠ p) : del H p a = H a := by unfold del; rw [if_neg h]
theorem del_same {H : Hp} {p : Addr} : del H p p = none := by unfold del; rw [if_pos rfl]
theorem del_keep {H : Hp} {p a : Addr} {u o : HO} (hp : H p = some u) (h : H a = some o) (ne : o ≠ u) : del H p a = some o := by
  rw [del_ne fun z => by subst z; rw [hp] at h; cases h; exact ne rfl]
  exact h
theorem del_l {H : Hp} {p a : Addr} {o : Obj} {kvs : List (Key × V)} {xs : List V} (hp : H p = some (.frz o (.dK kvs))) (h : SqL K H a xs) : SqL K (del H p) a xs := by
  rcases h with (h | ⟨o', h⟩) | h
  · exact .inl (.inl (del_keep hp h (by simp)))
  · exact .inl (.inr ⟨o', del_keep hp h (by simp)⟩)
  · exact .inr h
section
variable {H : Hp} {p : Addr} {o : Obj} {kvs : List (Key × V)}
mutual
theorem Dz.del (hp : H p = some (.frz o (.dK kvs))) : ∀ {v : V} {d : D}, Dz K H v d → Dz K (del H p) v d
  | _, _, .non => .non
  | _, _, .bl b => .bl b
  | _, _, .int i => .int i
  | _, _, .str x => .str x
  | _, _, .lst h hs => .lst (del_l hp h) (Dzs.del hp hs)
  | _, _, .tup h hs => .tup (del_keep hp h (by simp)) (Dzs.del hp hs)
  | _, _, .zt h => .zt h
  | _, _, .dK h hs => .dK (del_keep hp h (by simp)) (DzP.del hp hs)
  | _, _, .dT h hs => .dT (del_keep hp h (by simp)) (DzT.del hp hs)
  | _, _, .ins h hs => .ins (del_keep hp h (by simp)) (DzF.del hp hs)
  | _, _, .rng h => .rng (del_keep hp h (by simp))
  | _, _, .ft h hd hs => .ft (del_keep hp h (by simp)) hd (Dzs.del hp hs)
  | _, _, .tupf h hc hn hd hs => .tupf (del_keep hp h (by simp)) hc hn hd (Dzs.del hp hs)
theorem Dzs.del (hp : H p = some (.frz o (.dK kvs))) : ∀ {xs : List V} {ds : List D}, Dzs K H xs ds → Dzs K (del H p) xs ds
  | _, _, .nil => .nil
  | _, _, .cons h hs => .cons (Dz.del hp h) (Dzs.del hp hs)
theorem DzP.del (hp : H p = some (.frz o (.dK kvs))) : ∀ {xs : List (Key × V)} {ds : List (Key × D)}, DzP K H xs ds → DzP K (del H p) xs ds
  | _, _, .nil => .nil
  | _, _, .cons h hs => .cons (Dz.del hp h) (DzP.del hp hs)
theorem DzT.del (hp : H p = some (.frz o (.dK kvs))) : ∀ {xs : List (List Key × V)} {ds : List (List Key × D)}, DzT K H xs ds → DzT K (del H p) xs ds
  | _, _, .nil => .nil
  | _, _, .cons h hs => .cons (Dz.del hp h) (DzT.del hp hs)
theorem DzF.del (hp : H p = some (.frz o (.dK kvs))) : ∀ {xs : List (Str × V)} {ds : List (Str × D)}, DzF K H xs ds → DzF K (del H p) xs ds
  | _, _, .nil => .nil
  | _, _, .cons h hs => .cons (Dz.del hp h) (DzF.del hp hs)
end
end
/-! ### the world: a dict at d, a list at f k for each key k -/
abbrev KD := List (Str × List Int)
def putI (kds : KD) (k : Str) (n : Int) : KD := if k ∈ kds.map (·.1) then kds.map fun p => if p.1 = k then (p.1, p.2 ++ [n]) else p else kds ++ [(k, [n])]
def kvF (f : Str → Addr) (kds : KD) : List (Key × V) := kds.map fun p => (.inr p.1, .ref (f p.1))
structure FW (d : Addr) (f : Str → Addr) (M : MS) (G H : Hp) (kds : KD) : Prop where
  md : M d
  gd : G d = none
  hd : H d = some (.dK (kvF f kds))
  at_ : ∀ p ∈ kds, M (f p.1) ∧ G (f p.1) = none ∧ f p.1 ≠ d ∧ H (f p.1) = some (.lst (p.2.map V.int))
  inj : ∀ p ∈ kds, ∀ q ∈ kds, f p.1 = f q.1 → p.1 = q.1
  nd : (kds.map (·.1)).Nodup
  len : kds.length ≤ 4000 ∧ ∀ p ∈ kds, p.2.length ≤ 4000
/-- the addresses of the world -/
def inW (d : Addr) (f : Str → Addr) (kds : KD) (a : Addr) : Prop := a = d ∨ ∃ p ∈ kds, a = f p.1
section
variable {d : Addr} {f : Str → Addr} {M : MS} {G H G' H' : Hp} {kds : KD} {σ : L2.St}
theorem FW.ne (w : FW d f M G H kds) {a : Addr} (h : inW d f kds a) : H a ≠ none := by
  rcases h with rfl | ⟨p, hp, rfl⟩
  · rw [w.hd]; simp
  · rw [(w.at_ p hp).2.2.2]; simp
theorem FW.g0 (w : FW d f M G H kds) {a : Addr} (h : inW d f kds a) : G a = none := by
  rcases h with rfl | ⟨p, hp, rfl⟩
  · exact w.gd
  · exact (w.at_ p hp).2.1
/-- a new key, with a new list of one -/
theorem FW.fresh (w : FW d f M G H kds) {k : Str} {n : Int} {z : Addr} (hk : k ∉ kds.map (·.1)) (hz : H z = none) (gz : G z = none) (mz : M z) (hl : kds.length < 4000) :
    FW d (fun s => if s = k then z else f s) M G (upd (upd (upd H z (.lst [])) d (.dK (kvF f kds ++ [(.inr k, .ref z)]))) z (.lst [.int n])) (putI kds k n) := by
  have e1 : putI kds k n = kds ++ [(k, [n])] := by unfold putI; rw [if_neg hk]
  have zd : z ≠ d := fun e => by subst e; rw [w.hd] at hz; cases hz
  have fk : ∀ p ∈ kds, (if p.1 = k then z else f p.1) = f p.1 := fun p hp => if_neg fun e => hk (List.mem_map.mpr ⟨p, hp, e⟩)
  have fz : ∀ p ∈ kds, f p.1 ≠ z := fun p hp e => by have := (w.at_ p hp).2.2.2; rw [e, hz] at this; cases this
  rw [e1]
  refine ⟨w.md, w.gd, ?_, fun q hq => ?_, fun q hq r hr e => ?_, ?_, ?_, fun q hq => ?_⟩
  · rw [upd_ne zd.symm, upd_same]
    unfold kvF
    rw [List.map_append]
    congr 2
    refine congr (congrArg _ (List.map_congr_left fun p hp => ?_)) ?_
    · show ((.inr p.1, .ref (f p.1)) : Key × V) = (.inr p.1, .ref (if p.1 = k then z else f p.1))
      rw [fk p hp]
    · show [((.inr k, .ref z) : Key × V)] = [(.inr k, .ref (if k = k then z else f k))]
      rw [if_pos rfl]
  · rcases List.mem_append.mp hq with h | h
    · obtain ⟨b1, b2, b3, b4⟩ := w.at_ q h
      show M (if q.1 = k then z else f q.1) ∧ G (if q.1 = k then z else f q.1) = none ∧ (if q.1 = k then z else f q.1) ≠ d ∧ _
      rw [fk q h]
      refine ⟨b1, b2, b3, ?_⟩
      rw [upd_ne (fz q h), upd_ne b3, upd_ne (fz q h)]
      exact b4
    · rw [List.mem_singleton] at h
      subst h
      show M (if k = k then z else f k) ∧ G (if k = k then z else f k) = none ∧ (if k = k then z else f k) ≠ d ∧ _
      rw [if_pos rfl]
      exact ⟨mz, gz, zd, upd_same⟩
  · have ev : ∀ q ∈ kds ++ [(k, [n])], (q ∈ kds ∧ q.1 ≠ k ∧ (if q.1 = k then z else f q.1) = f q.1) ∨ (q.1 = k ∧ (if q.1 = k then z else f q.1) = z) := fun q hq => by
      rcases List.mem_append.mp hq with h | h
      · exact .inl ⟨h, fun e => hk (List.mem_map.mpr ⟨q, h, e⟩), fk q h⟩
      · rw [List.mem_singleton] at h
        subst h
        exact .inr ⟨rfl, if_pos rfl⟩
    have e' : (if q.1 = k then z else f q.1) = (if r.1 = k then z else f r.1) := e
    rcases ev q hq with ⟨h1, h2, h3⟩ | ⟨h1, h3⟩ <;> rcases ev r hr with ⟨g1, g2, g3⟩ | ⟨g1, g3⟩
    · rw [h3, g3] at e'
      exact w.inj q h1 r g1 e'
    · rw [h3, g3] at e'
      exact absurd e' (fz q h1)
    · rw [h3, g3] at e'
      exact absurd e'.symm (fz r g1)
    · rw [h1, g1]
  · rw [List.map_append, List.nodup_append]
    refine ⟨w.nd, by simp, fun a ha b hb e => ?_⟩
    rw [show [(k, [n])].map (·.1) = [k] from rfl, List.mem_singleton] at hb
    subst hb
    subst e
    exact hk ha
  · rw [List.length_append]
    show kds.length + 1 ≤ 4000
    omega
  · rcases List.mem_append.mp hq with h | h
    · exact w.len.2 q h
    · rw [List.mem_singleton] at h
      subst h
      show 1 ≤ 4000
      decide
end
end Z

set_option Elab.async false
set_option linter.all false
set_option maxRecDepth 100000
set_option maxHeartbeats 2000000
/-! ZLk2: steps and loops over a dict of lists. -/
namespace Z
open PySem PySem.Spec PyProof.Rows L2
open Evl (Ex Ex.refl Ex.trans Ex.new ex_rd ex_l ex_t sq_of st_of fresh_back sz_of sz_lt)
variable {K : PySem.W.Frag} {ρ ρ' ρ1 ρ2 : Rho} {te ta tb tl tk tv : TE} {ds : List D} {f : Str → Addr} {M : MS} {G H G' H' G0 H0 G1 H1 : Hp} {kds : KD} {σ : L2.St} {E : Ends}
/-! ### {k: tuple(v) for k, v in d.items()} -/
def kdD (kds : KD) : List (Key × D) := kds.map fun p => (.inr p.1, .tup (p.2.map .int))
end Z

set_option Elab.async false
set_option linter.all false
set_option maxRecDepth 100000
set_option maxHeartbeats 2000000
/-! SpB: dimensions; _is_leaf, _is_dimension, check_dimensions, choices. -/
namespace Z
open PySem PySem.Spec PyProof.Rows L2
open Evl (Ex Ex.refl Ex.trans Ex.new ex_rd ex_l ex_t sq_of st_of fresh_back sz_of sz_lt)
structure Dm where
  name : Str
  leaves : List (List Str)
def Dm.paths (d : Dm) : List Str := d.leaves.map pathS
def Dm.tupD (d : Dm) : D := .tup (d.paths.map .str)
def Dm.d (d : Dm) : D := .tup [.str d.name, d.tupD]
def dimsD (ds : List Dm) : D := .tup (ds.map Dm.d)
structure Dm.Good (d : Dm) (n : Nat) : Prop where
  name : wordB d.name = true
  few : 2 ≤ d.leaves.length
  most : d.leaves.length ≤ 8
  n1 : 1 ≤ n
  n3 : n ≤ 3
  depth : ∀ ws ∈ d.leaves, ws.length = n
  words : ∀ ws ∈ d.leaves, GoodW ws
  asc : d.paths.Pairwise fun x y => x.cps.toList < y.cps.toList
def cellsN : List Dm → Nat
  | [] => 1
  | d :: ds => d.leaves.length * cellsN ds
structure GoodDs (ds : List Dm) : Prop where
  few : 1 ≤ ds.length
  most : ds.length ≤ 3
  names : (ds.map Dm.name).Nodup
  good : ∀ d ∈ ds, ∃ n, d.Good n
  cells : cellsN ds ≤ 48
section
variable {K : PySem.W.Frag} {S : List Nat} {ρ ρ' ρ1 ρ2 : Rho} {te ta tb : TE} {ds : List D} {d e : D}
/-! ### _is_leaf -/
/-! ### _is_dimension -/
theorem ev_i1 {i : Nat} {n : Int} (h : ρ[i]? = some (.fr (.int n))) : EvZ K (tVar i) ρ ρ (.int n) := ev_var h
/-! ### check_dimensions -/
theorem cells_pos {ds : List Dm} (h : ∀ d ∈ ds, ∃ n, d.Good n) : 1 ≤ cellsN ds := by
  induction ds with
  | nil => exact Nat.le_refl 1
  | cons d ds ih =>
    obtain ⟨n, g⟩ := h d List.mem_cons_self
    have h1 := ih fun x hx => h x (List.mem_cons_of_mem _ hx)
    have h2 := g.few
    show 1 ≤ d.leaves.length * cellsN ds
    exact Nat.mul_pos (by omega) h1
/-! ### choices -/
def consE {α : Type} (found : List (List α)) (row : List α) : List (List α) := found.flatMap fun c => row.map fun x => c ++ [x]
def choicesD {α : Type} (rows : List (List α)) : List (List α) := rows.foldl consE [[]]
theorem consE_map {α β : Type} (f : α → β) (row : List α) : ∀ found : List (List α), consE (found.map fun (r : List α) => r.map f) (row.map f) = (consE found row).map fun (r : List α) => r.map f
  | [] => rfl
  | c :: found => by
    show List.map _ (row.map f) ++ consE (found.map fun (r : List α) => r.map f) (row.map f) = (List.map _ row ++ consE found row).map fun (r : List α) => r.map f
    rw [consE_map f row found, List.map_append, List.map_map, List.map_map]
    congr 1
    refine List.map_congr_left fun x _ => ?_
    show c.map f ++ [f x] = (c ++ [x]).map f
    rw [List.map_append]
    rfl
theorem choices_acc {α β : Type} (f : α → β) : ∀ (rows : List (List α)) (found : List (List α)), (rows.map fun (r : List α) => r.map f).foldl consE (found.map fun (r : List α) => r.map f) = (rows.foldl consE found).map fun (r : List α) => r.map f
  | [], found => rfl
  | r :: rows, found => by
    rw [List.map_cons, List.foldl_cons, List.foldl_cons, consE_map, choices_acc f rows]
theorem choices_map {α β : Type} (f : α → β) (rows : List (List α)) : choicesD (rows.map fun (r : List α) => r.map f) = (choicesD rows).map fun (r : List α) => r.map f := choices_acc f rows [[]]
theorem consE_len {α : Type} (row : List α) : ∀ found : List (List α), (consE found row).length = found.length * row.length
  | [] => by rw [List.length_nil, Nat.zero_mul]; rfl
  | c :: found => by
    show (List.map _ row ++ consE found row).length = _
    rw [List.length_append, List.length_map, consE_len row found, List.length_cons, Nat.succ_mul, Nat.add_comm]
end
section
variable {K : PySem.W.Frag}
end
end Z

set_option Elab.async false
set_option linter.all false
set_option maxRecDepth 100000
set_option maxHeartbeats 2000000
/-! SpC: _members_by_level, _leaves_by_member. -/
namespace Z
open PySem PySem.Spec PyProof.Rows L2
open Evl (Ex Ex.refl Ex.trans Ex.new ex_rd ex_l ex_t sq_of st_of fresh_back sz_of sz_lt)
section
variable {K : PySem.W.Frag}
/-! ### _members_by_level -/
def starts (lv : List (List Str)) (l : Nat) : List Str := lv.map fun ws => pathS (ws.take l)
def memL (lv : List (List Str)) (l : Nat) : List Str := met (starts lv l)
def levelsD (lv : List (List Str)) (n : Nat) : List D := (List.range n).map fun l => D.tup ((memL lv l).map .str)
end
end Z

set_option Elab.async false
set_option linter.all false
set_option maxRecDepth 100000
set_option maxHeartbeats 2000000
/-! SpD: _leaves_by_member. -/
namespace Z
open PySem PySem.Spec PyProof.Rows L2
open Evl (Ex Ex.refl Ex.trans Ex.new ex_rd ex_l ex_t sq_of st_of fresh_back sz_of sz_lt)
/-- one leaf: its starts of the levels below m -/
def addLeaf (i : Int) (ws : List Str) : Nat → KD → KD
  | 0, kds => kds
  | m + 1, kds => putI (addLeaf i ws m kds) (pathS (ws.take m)) i
def addLeaves (m : Nat) : Nat → List (List Str) → KD → KD
  | _, [], kds => kds
  | i, ws :: lv, kds => addLeaves m (i + 1) lv (addLeaf (i : Int) ws m kds)
def lbm (lv : List (List Str)) (m : Nat) : KD := addLeaves m 0 lv []
structure Few (n : Nat) (kds : KD) : Prop where
  l : kds.length ≤ n
  p : ∀ q ∈ kds, q.2.length ≤ n
theorem Few.put {n : Nat} {kds : KD} (h : Few n kds) (k : Str) (i : Int) : Few (n + 1) (putI kds k i) := by
  unfold putI
  split
  · refine ⟨by rw [List.length_map]; have := h.l; omega, fun q hq => ?_⟩
    obtain ⟨p, hp, rfl⟩ := List.mem_map.mp hq
    have := h.p p hp
    split
    · rw [List.length_append]; show p.2.length + 1 ≤ n + 1; omega
    · omega
  · refine ⟨by rw [List.length_append]; have := h.l; show kds.length + 1 ≤ n + 1; omega, fun q hq => ?_⟩
    rcases List.mem_append.mp hq with z | z
    · have := h.p q z; omega
    · rw [List.mem_singleton.mp z]
      show 1 ≤ n + 1
      omega
theorem Few.leaf {n : Nat} {kds : KD} (h : Few n kds) (i : Int) (ws : List Str) : ∀ m, Few (n + m) (addLeaf i ws m kds)
  | 0 => h
  | m + 1 => (h.leaf i ws m).put _ _
section
variable {K : PySem.W.Frag} {Rs Rw : Rel} {lv : List (List Str)} {M : MS} {G H G0 H0 : Hp} {σ : L2.St} {E : Ends}
abbrev lvD (lv : List (List Str)) : D := .tup (lv.map fun ws => .str (pathS ws))
/-- what stands between two turns -/
structure LW (K : PySem.W.Frag) (M : MS) (G0 H0 G1 : Hp) (p : Addr) (ρ : Rho) (kds : KD) (G H : Hp) (σ : L2.St) : Prop where
  e : Ex G1 G
  g : Grow M G0 H0 G H
  s : Sim K M G H σ ρ
  at1 : σ[1]? = some (some (.ref p))
  w : ∃ f, FW p f M G H kds
end
end Z

set_option Elab.async false
set_option linter.all false
set_option maxRecDepth 100000
set_option maxHeartbeats 2000000
/-! SpE: Space.__init__ and the methods. -/
namespace Z
open PySem PySem.Spec PyProof.Rows L2
open Evl (Ex Ex.refl Ex.trans Ex.new ex_rd ex_l ex_t sq_of st_of fresh_back sz_of sz_lt)
def Dm.dep (d : Dm) : Nat := (d.leaves.headD []).length
theorem Dm.Good.dep {d : Dm} {n : Nat} (h : d.Good n) : d.dep = n := by
  have h0 : 0 < d.leaves.length := by have := h.few; omega
  unfold Dm.dep
  cases e : d.leaves with
  | nil => rw [e] at h0; cases h0
  | cons ws l => exact h.depth ws (by rw [e]; exact List.mem_cons_self)
theorem GoodDs.at_ {ds : List Dm} (g : GoodDs ds) {d : Dm} (h : d ∈ ds) : d.Good d.dep := by
  obtain ⟨n, hn⟩ := g.good d h
  rw [hn.dep]
  exact hn
def lvlD (ds : List Dm) : D := .lst (ds.map fun d => .lst (levelsD d.leaves (d.dep + 1)))
def lvsD (ds : List Dm) : D := .lst (ds.map fun d => .dK (kdD (lbm d.leaves (d.dep + 1))))
def prtD (ds : List Dm) : D := .lst ((choicesD (ds.map fun d => rangeD 0 d.leaves.length)).map .tup)
def celS (ds : List Dm) : List (List Str) := choicesD (ds.map Dm.paths)
def celT (c : List Str) : D := .tup (c.map .str)
def celD (ds : List Dm) : D := .lst ((celS ds).map celT)
/-- the numbers of the cells -/
def numA : Nat → List (List Str) → List (List Key × D) → List (List Key × D)
  | _, [], acc => acc
  | i, c :: cs, acc => numA (i + 1) cs (putD acc (c.map .inr) (.int (i : Int)))
def numD (ds : List Dm) : D := .dT (numA 0 (celS ds) [])
def spF (ds : List Dm) : List (Str × D) := [("dimensions", dimsD ds), ("_levels", lvlD ds), ("_leaves", lvsD ds), ("_parts", prtD ds), ("_cells", celD ds), ("_numbers", numD ds), ("many", .int (((celS ds).map celT).length : Int))]
def spD (C : Addr) (ds : List Dm) : D := .ins C (spF ds)
theorem choices_len {α : Type} : ∀ (rows : List (List α)) (found : List (List α)), (rows.foldl consE found).length = found.length * (rows.map List.length).foldr (· * ·) 1
  | [], found => (Nat.mul_one _).symm
  | r :: rows, found => by
    rw [List.foldl_cons, choices_len rows, consE_len, List.map_cons, List.foldr_cons, Nat.mul_assoc]
theorem celS_len (ds : List Dm) : (celS ds).length = cellsN ds := by
  unfold celS choicesD
  rw [choices_len]
  rw [List.length_singleton, Nat.one_mul]
  induction ds with
  | nil => rfl
  | cons d ds ih =>
    rw [List.map_cons, List.map_cons, List.foldr_cons, ih]
    unfold Dm.paths
    rw [List.length_map]
    rfl
section
variable {K : PySem.W.Frag}
end
end Z

set_option Elab.async false
set_option linter.all false
set_option maxRecDepth 100000
set_option maxHeartbeats 2000000
/-! SpF: members, the leaves below them, their numbers: facts, without the program. -/
namespace Z
open PySem PySem.Spec PyProof.Rows L2
theorem addS_mem {acc : List Str} {x y : Str} : y ∈ addS acc x ↔ y ∈ acc ∨ y = x := by
  unfold addS
  split
  · exact ⟨.inl, fun h => h.elim id fun e => by subst e; assumption⟩
  · rw [List.mem_append, List.mem_singleton]
theorem fold_mem {y : Str} : ∀ (xs acc : List Str), y ∈ xs.foldl addS acc ↔ y ∈ acc ∨ y ∈ xs
  | [], acc => by simp
  | x :: xs, acc => by rw [List.foldl_cons, fold_mem xs, addS_mem, List.mem_cons, or_assoc]
theorem met_mem {xs : List Str} {y : Str} : y ∈ met xs ↔ y ∈ xs := by
  unfold met
  rw [fold_mem]
  simp
/-! ### the leaves by their members -/
theorem take_len {ws : List Str} {l : Nat} (h : l ≤ ws.length) : (ws.take l).length = l := by rw [List.length_take]; omega
/-- the numbers of the leaves below us -/
def hits (us : List Str) : Nat → List (List Str) → List Int
  | _, [] => []
  | i, ws :: lv => if ws.take us.length = us then (i : Int) :: hits us (i + 1) lv else hits us (i + 1) lv
/-! ### the pairs (leaf, number of its member) -/
def pairs (lv : List (List Str)) (l : Nat) : Nat → List (List Str) → List (Int × Int)
  | _, [] => []
  | k, us :: ms => ((hits us 0 lv).map fun x => (x, (k : Int))) ++ pairs lv l (k + 1) ms
end Z

set_option Elab.async false
set_option linter.all false
set_option maxRecDepth 100000
set_option maxHeartbeats 2000000
/-! SpG: the numbers of members, level by level. -/
namespace Z
open PySem PySem.Spec PyProof.Rows L2
def posW : List (List Str) → List Str → Nat
  | [], _ => 0
  | u :: us, x => if u = x then 0 else posW us x + 1
theorem posW_get {x : List Str} : ∀ {us : List (List Str)}, x ∈ us → us[posW us x]? = some x
  | u :: us, h => by
    unfold posW
    by_cases e : u = x
    · rw [if_pos e, e]; rfl
    · rw [if_neg e]
      have h' : x ∈ us := (List.mem_cons.mp h).resolve_left fun z => e z.symm
      simpa using posW_get h'
structure Lv (lv : List (List Str)) (n : Nat) : Prop where
  g : ∀ ws ∈ lv, GoodW ws ∧ ws.length = n
def memW (lv : List (List Str)) (l : Nat) : List (List Str) := (memL lv l).map wordsS
section
variable {lv : List (List Str)} {n l : Nat}
theorem memL_of (h : Lv lv n) {s : Str} (hs : s ∈ memL lv l) : ∃ ws ∈ lv, s = pathS (ws.take l) ∧ wordsS s = ws.take l := by
  obtain ⟨ws, hw, rfl⟩ := List.mem_map.mp (met_mem.mp hs)
  exact ⟨ws, hw, rfl, words_path ((h.g ws hw).1.take l)⟩
theorem memW_of (h : Lv lv n) {us : List Str} (hs : us ∈ memW lv l) : ∃ ws ∈ lv, us = ws.take l := by
  obtain ⟨s, hs', rfl⟩ := List.mem_map.mp hs
  obtain ⟨ws, hw, _, e⟩ := memL_of h hs'
  exact ⟨ws, hw, e⟩
theorem memW_in (h : Lv lv n) {ws : List Str} (hw : ws ∈ lv) : ws.take l ∈ memW lv l := by
  refine List.mem_map.mpr ⟨pathS (ws.take l), met_mem.mpr (List.mem_map.mpr ⟨ws, hw, rfl⟩), words_path ((h.g ws hw).1.take l)⟩
theorem memW_good (h : Lv lv n) (hl : l ≤ n) {us : List Str} (hs : us ∈ memW lv l) : GoodW us ∧ us.length = l := by
  obtain ⟨ws, hw, rfl⟩ := memW_of h hs
  exact ⟨(h.g ws hw).1.take l, take_len (by rw [(h.g ws hw).2]; exact hl)⟩
theorem memW_len (h : Lv lv n) : (memW lv l).length = (memL lv l).length := by unfold memW; rw [List.length_map]
end
end Z

set_option Elab.async false
set_option linter.all false
set_option maxRecDepth 100000
set_option maxHeartbeats 2000000
/-! SpH: the methods; check_grouping, _member_numbers, group_numbers, coarser, meet, join. -/
namespace Z
open PySem PySem.Spec PyProof.Rows L2
open Evl (Ex Ex.refl Ex.trans Ex.new ex_rd ex_l ex_t sq_of st_of fresh_back sz_of sz_lt)
theorem GoodDs.lv {ds : List Dm} (g : GoodDs ds) {d : Dm} (h : d ∈ ds) : Lv d.leaves d.dep := ⟨fun ws hw => ⟨(g.at_ h).words ws hw, (g.at_ h).depth ws hw⟩⟩
section
variable {K : PySem.W.Frag} {C : Addr}
/-- a def that ends by a return: its relation -/
theorem rel_rt {t : TS} {n : Nat} {ds : List D} {r : Cell} (h : ∃ ρ2, ExZ K [] t (ds.map .fr ++ List.replicate (n - ds.length) .no) (.rt ρ2 r)) : RelOf K [] t n ds.length (ds.map .fr) r (ds.map .fr) := by
  obtain ⟨ρ2, h⟩ := h
  exact ⟨List.length_map .., ρ2, .inl h, fin_fr⟩
/-! ### check_grouping -/
def grD (g : List Nat) : D := .tup (g.map fun (l : Nat) => .int (l : Int))
def GrOk : List Dm → List Nat → Prop
  | [], [] => True
  | d :: ds, l :: g => l ≤ d.dep ∧ GrOk ds g
  | _, _ => False
/-! ### _member_numbers, group_numbers -/
end
end Z

set_option Elab.async false
set_option linter.all false
set_option maxRecDepth 100000
set_option maxHeartbeats 2000000
/-! SpI: group_numbers, coarser, meet, join. -/
namespace Z
open PySem PySem.Spec PyProof.Rows L2
open Evl (Ex Ex.refl Ex.trans Ex.new ex_rd ex_l ex_t sq_of st_of fresh_back sz_of sz_lt)
section
variable {K : PySem.W.Frag} {C : Addr}
/-! ### coarser, meet, join -/
theorem all_map {α : Type} (f : α → Bool) (xs : List α) : (xs.map f).all id = xs.all f := by
  induction xs with
  | nil => rfl
  | cons x xs ih => rw [List.map_cons, List.all_cons, List.all_cons, ih]; rfl
end
end Z

set_option Elab.async false
set_option linter.all false
set_option maxRecDepth 100000
set_option maxHeartbeats 2000000
/-! LawR: readings of the defs of a law that draw dimensions. -/
namespace Z
open PySem PySem.Spec PyProof.Rows L2
def b__law_word_1 (K : PySem.W.Frag) (R__law_draw : Rel) : TS :=
  (tIfS (tTest (tOp (rIn K true) (tVar 6) (tVar 1))) (tRet (tVar 6)) tNext)
def b__law_word_2 (K : PySem.W.Frag) (R__law_draw : Rel) : TS :=
  (tAsg (tOp rCatS (tVar 4) (tOp (rIx K) (tVar 2) (tCall (SpZ K R__law_draw) [] E0 (tCons (tVar 0) (tCons (tC (.int 26)) tNil))))) (gName 4))
def b__law_word_3 (K : PySem.W.Frag) (R__law_draw : Rel) : TS :=
  (tSeq (tAsg (tC (.str "")) (gName 4))
      (tSeq (tFor (iRng1 (tCons (tOp rAddI (tC (.int 1)) (tOp rMulI (tCall (SpZ K R__law_draw) [] E0 (tCons (tVar 0) (tCons (tC (.int 8)) tNil))) (tCall (SpZ K R__law_draw) [] E0 (tCons (tVar 0) (tCons (tC (.int 2)) tNil))))) tNil)) (gName 5) (b__law_word_2 K R__law_draw))
      (tIfS (tAnd (tTest (tOp (rIn K true) (tVar 4) (tVar 1))) (tTest (tOp (rIn K true) (tVar 4) (tTup (tCons (tC (.str "sum")) (tCons (tC (.str "where")) (tCons (tC (.str "in")) (tCons (tC (.str "and")) tNil)))))))) (tRet (tVar 4)) tNext)))
def t__law_word (K : PySem.W.Frag) (R__law_draw : Rel) : TS :=
  (tSeq (tAsg (tC (.str "abcdefghijklmnopqrstuvwxyz")) (gName 2))
      (tSeq (tFor (iRng1 (tCons (tC (.int 3)) tNil)) (gName 3) (b__law_word_3 K R__law_draw))
      (tSeq (tFor (iStr (tVar 2)) (gName 6) (b__law_word_1 K R__law_draw))
      (tRet (tC (.str "zz"))))))

def e__law_leaves_1 (K : PySem.W.Frag) (R__law_draw : Rel) (R__law_word : Rel) : TE :=
  (tOp (rIx K) (tVar 11) (tC (.int 0)))
def b__law_leaves_2 (K : PySem.W.Frag) (R__law_draw : Rel) (R__law_word : Rel) : TS :=
  (tSeq (tAsg (tM1 (rJoin K) (tC (.str "/")) (tOp rCat (tLc (iList K (tSl (rSlL K) (tVar 3) tNoPart (tPart (tUn (rU fun i => .int (-i)) (tC (.int 1)))))) (gName 11) tYes (e__law_leaves_1 K R__law_draw R__law_word) [11]) (tLst (tCons (tVar 10) tNil)))) (gName 9))
      (tIfS (tAnd (tTest (tOp (rIn K true) (tVar 9) (tVar 7))) (tTest (tOp rLtI (tCB (rLenX K) (tCons (tVar 7) tNil)) (tC (.int 2))))) (tDrop (tBM K "list" rAppend (tVar 7) (tCons (tVar 9) tNil))) tNext))
def e__law_leaves_3 (K : PySem.W.Frag) (R__law_draw : Rel) (R__law_word : Rel) : TE :=
  (tOp (rIx K) (tVar 11) (tCall (SpZ K R__law_draw) [] E0 (tCons (tVar 0) (tCons (tCB (rLenX K) (tCons (tVar 11) tNil)) tNil))))
def b__law_leaves_4 (K : PySem.W.Frag) (R__law_draw : Rel) (R__law_word : Rel) : TS :=
  (tSeq (tAsg (tM1 (rJoin K) (tC (.str "/")) (tLc (iList K (tVar 3)) (gName 11) tYes (e__law_leaves_3 K R__law_draw R__law_word) [11])) (gName 9))
      (tIfS (tAnd (tTest (tOp (rIn K true) (tVar 9) (tVar 7))) (tTest (tOp rLtI (tCB (rLenX K) (tCons (tVar 7) tNil)) (tVar 2)))) (tDrop (tBM K "list" rAppend (tVar 7) (tCons (tVar 9) tNil))) tNext))
def b__law_leaves_5 (K : PySem.W.Frag) (R__law_draw : Rel) (R__law_word : Rel) : TS :=
  (tIfS (tOr (tTest (tOp rEq (tVar 4) (tOp rSubI (tVar 1) (tC (.int 1))))) (tTest (tOp rLtI (tVar 6) (tC (.int 2))))) (tDrop (tBM K "list" rAppend (tVar 5) (tCons (tCall (SpZ K R__law_word) [] E0 (tCons (tVar 0) (tCons (tVar 5) tNil))) tNil))) tNext)
def b__law_leaves_6 (K : PySem.W.Frag) (R__law_draw : Rel) (R__law_word : Rel) : TS :=
  (tSeq (tAsg (tLst tNil) (gName 5))
      (tSeq (tFor (iRng1 (tCons (tVar 2) tNil)) (gName 6) (b__law_leaves_5 K R__law_draw R__law_word))
      (tDrop (tBM K "list" rAppend (tVar 3) (tCons (tVar 5) tNil)))))
def t__law_leaves (K : PySem.W.Frag) (R__law_draw : Rel) (R__law_word : Rel) : TS :=
  (tSeq (tAsg (tLst tNil) (gName 3))
      (tSeq (tFor (iRng1 (tCons (tVar 1) tNil)) (gName 4) (b__law_leaves_6 K R__law_draw R__law_word))
      (tSeq (tAsg (tLst tNil) (gName 7))
      (tSeq (tFor (iRng1 (tCons (tOp rMulI (tC (.int 2)) (tVar 2)) tNil)) (gName 8) (b__law_leaves_4 K R__law_draw R__law_word))
      (tSeq (tFor (iList K (tOp (rIx K) (tVar 3) (tUn (rU fun i => .int (-i)) (tC (.int 1))))) (gName 10) (b__law_leaves_2 K R__law_draw R__law_word))
      (tRet (tCB (rTupOf K) (tCons (tCB (rSortedS K) (tCons (tVar 7) tNil)) tNil))))))))

def b__law_plain_leaves_1 (K : PySem.W.Frag) : TS :=
  (tIfS (tTest (tOp rLtI (tOp rMulI (tC (.int 2)) (tVar 6)) (tVar 1))) (tDrop (tBM K "list" rAppend (tVar 5) (tCons (tOp rCatS (tOp (rIx K) (tVar 3) (tOp rSubI (tVar 0) (tC (.int 1)))) (tOp (rIx K) (tVar 2) (tVar 6))) tNil))) (tDrop (tBM K "list" rAppend (tVar 5) (tCons (tOp rCatS (tOp (rIx K) (tVar 4) (tOp rSubI (tVar 0) (tC (.int 1)))) (tOp (rIx K) (tVar 2) (tVar 6))) tNil))))
def t__law_plain_leaves (K : PySem.W.Frag) : TS :=
  (tSeq (tAsg (tC (.str "abcdefgh")) (gName 2))
      (tSeq (tAsg (tTup (tCons (tC (.str "")) (tCons (tC (.str "m/")) (tCons (tC (.str "m/p/")) tNil)))) (gName 3))
      (tSeq (tAsg (tTup (tCons (tC (.str "")) (tCons (tC (.str "n/")) (tCons (tC (.str "n/q/")) tNil)))) (gName 4))
      (tSeq (tAsg (tLst tNil) (gName 5))
      (tSeq (tFor (iRng1 (tCons (tVar 1) tNil)) (gName 6) (b__law_plain_leaves_1 K))
      (tRet (tCB (rTupOf K) (tCons (tVar 5) tNil))))))))

def t__law_level (K : PySem.W.Frag) : TS :=
  (tSeq (tIfS (tTest (tOp rEq (tVar 0) (tC (.str "")))) (tRet (tC (.int 0))) tNext)
      (tRet (tCB (rLenX K) (tCons (tM1 rSplit (tVar 0) (tC (.str "/"))) tNil))))

def b__law_wide_1 (K : PySem.W.Frag) (R__law_box : Rel) (R__law_draw : Rel) (R__law_leaves : Rel) (R__law_plain_leaves : Rel) (R__law_word : Rel) : TS :=
  (tSeq (tAsg (tCall (SpZ K R__law_box) [] E0 (tCons (tVar 0) (tCons (tOp rAddI (tOp rAddI (tVar 1) (tC (.int 1))) (tVar 6)) tNil))) (gName 7))
      (tIfS (tTest (tOp rGeI (tVar 2) (tC (.int 2)))) (tSeq (tAsg (tOp rAddI (tC (.int 1)) (tCall (SpZ K R__law_draw) [] E0 (tCons (tVar 7) (tCons (tC (.int 3)) tNil)))) (gName 8))
      (tSeq (tAsg (tCB rMin2 (tCons (tOp rAddI (tC (.int 2)) (tCall (SpZ K R__law_draw) [] E0 (tCons (tVar 7) (tCons (tC (.int 7)) tNil)))) (tCons (tVar 2) tNil))) (gName 9))
      (tSeq (tAsg (tOp rEq (tCall (SpZ K R__law_draw) [] E0 (tCons (tVar 7) (tCons (tC (.int 3)) tNil))) (tC (.int 0))) (gName 10))
      (tSeq (tAsg (tIf (tTruth K (tVar 10)) (tCall (SpZ K R__law_plain_leaves) [] E0 (tCons (tVar 8) (tCons (tVar 9) tNil))) (tCall (SpZ K R__law_leaves) [] E0 (tCons (tVar 7) (tCons (tVar 8) (tCons (tVar 9) tNil))))) (gName 11))
      (tSeq (tAsg (tOp rDivI (tVar 2) (tCB (rLenX K) (tCons (tVar 11) tNil))) (gName 2))
      (tSeq (tAsg (tCall (SpZ K R__law_word) [] E0 (tCons (tVar 7) (tCons (tVar 5) tNil))) (gName 12))
      (tSeq (tDrop (tBM K "list" rAppend (tVar 5) (tCons (tVar 12) tNil)))
      (tDrop (tBM K "list" rAppend (tVar 4) (tCons (tTup (tCons (tVar 12) (tCons (tVar 11) tNil))) tNil)))))))))) tNext))
def t__law_wide (K : PySem.W.Frag) (R__law_box : Rel) (R__law_draw : Rel) (R__law_leaves : Rel) (R__law_plain_leaves : Rel) (R__law_word : Rel) : TS :=
  (tSeq (tAsg (tCall (SpZ K R__law_box) [] E0 (tCons (tVar 0) (tCons (tVar 1) tNil))) (gName 3))
      (tSeq (tAsg (tLst tNil) (gName 4))
      (tSeq (tAsg (tLst tNil) (gName 5))
      (tSeq (tFor (iRng1 (tCons (tOp rAddI (tC (.int 1)) (tCall (SpZ K R__law_draw) [] E0 (tCons (tVar 3) (tCons (tC (.int 3)) tNil)))) tNil)) (gName 6) (b__law_wide_1 K R__law_box R__law_draw R__law_leaves R__law_plain_leaves R__law_word))
      (tRet (tCB (rTupOf K) (tCons (tVar 4) tNil)))))))

end Z

set_option Elab.async false
set_option linter.all false
set_option maxRecDepth 100000
set_option maxHeartbeats 2000000
/-! LawD: _law_word. -/
namespace Z
open PySem PySem.Spec PyProof.Rows L2
open Evl (Ex Ex.refl Ex.trans Ex.new ex_rd ex_l ex_t sq_of st_of fresh_back sz_of sz_lt)
def Lets (z : Str) : Prop := ∀ c ∈ z.cps.toList, c ∈ letS.cps.toList
theorem lets_snoc {z : Str} {c : Nat} (h : Lets z) (hc : c ∈ letS.cps.toList) : Lets (z ++ ⟨#[c]⟩) := fun x hx => by
  rw [Str.cps_append, Array.toList_append, List.mem_append] at hx
  rcases hx with hx | hx
  · exact h x hx
  · rw [List.mem_singleton.mp hx]; exact hc
theorem word_of {z : Str} (h : Lets z) (h1 : 1 ≤ z.length) (h8 : z.length ≤ 8) (hk : z ∉ keptS) : wordB z = true := by
  unfold wordB lettersB
  rw [decide_eq_false hk, decide_eq_true (show (1 : Int) ≤ (z.length : Int) by omega), decide_eq_true (show (z.length : Int) ≤ 8 by omega)]
  rw [Bool.not_false, Bool.and_self, Bool.and_self, Bool.true_and, List.all_eq_true]
  intro b hb
  obtain ⟨c, hc, rfl⟩ := List.mem_map.mp hb
  exact decide_eq_true (h c hc)
theorem kept_len : ∀ z ∈ keptS, 2 ≤ z.length := by decide +kernel
theorem let_nd : letS.cps.toList.Nodup := by decide +kernel
theorem one_word {c : Nat} (hc : c ∈ letS.cps.toList) : wordB ⟨#[c]⟩ = true :=
  word_of (fun x hx => by rw [List.mem_singleton.mp hx]; exact hc) (by rw [len_one]; exact Nat.le_refl 1) (by rw [len_one]; decide) fun h => by
    have := kept_len _ h
    rw [len_one] at this
    omega
theorem free_sign {ws : List Str} (h : ws.length ≤ 20) : ∃ c ∈ letS.cps.toList, (⟨#[c]⟩ : Str) ∉ ws := Classical.byContradiction fun n => by
  have all : ∀ c ∈ letS.cps.toList, (⟨#[c]⟩ : Str) ∈ ws := fun c hc => Classical.byContradiction fun z => n ⟨c, hc, z⟩
  have nd : (letS.cps.toList.map fun c => (⟨#[c]⟩ : Str)).Nodup := by
    refine List.pairwise_map.mpr (let_nd.imp fun {a b} hab e => hab ?_)
    have e1 : (⟨#[a]⟩ : Str).cps.toList = (⟨#[b]⟩ : Str).cps.toList := by rw [e]
    have e2 : [a] = [b] := e1
    injection e2
  have := List.Nodup.length_le_of_subset nd fun x hx => by
    obtain ⟨c, hc, rfl⟩ := List.mem_map.mp hx
    exact all c hc
  rw [List.length_map, let_len] at this
  omega
section
variable {K : PySem.W.Frag} {Rd : Rel}
def PostWd (ws : List Str) (b' : List D) (w : Str) : Prop := GoodBox b' ∧ wordB w = true ∧ w ∉ ws
/-- a word of _law_word -/
def CWord (R : Rel) : Prop := ∀ (b : List D) (ws : List Str), GoodBox b → ws.length ≤ 20 → ∃ (w : Str) (b' : List D), PostWd ws b' w ∧ R [.own b, .own (ws.map .str)] (.fr (.str w)) [.own b', .own (ws.map .str)]
theorem word_inner (hd : Spec Rd PreDraw PostDraw) {T c3 c6 : Cell} : ∀ (n m : Nat) (w : Str) (b : List D) (c5 : Cell), GoodBox b → Lets w → w.length + n ≤ 100 → m + n ≤ 100 → ∃ (w' : Str) (b' : List D) (c5' : Cell), GoodBox b' ∧ Lets w' ∧ w'.length = w.length + n ∧
    LoopZ K [0, 1] (gName 5) (b__law_word_2 K Rd) [5] (rangeD (m : Int) n) [.own b, T, .fr (.str letS), c3, .fr (.str w), c5, c6] (.nx [.own b', T, .fr (.str letS), c3, .fr (.str w'), c5', c6])
  | 0, m, w, b, c5, hb, hw, _, _ => ⟨w, b, c5, hb, hw, rfl, .nil⟩
  | n + 1, m, w, b, c5, hb, hw, hl, hm => by
    rw [rangeD_cons]
    obtain ⟨v, b1, h0, h1, hb1, he⟩ := ev_draw (K := K) hd (i := 0) (ρ := [.own b, T, .fr (.str letS), c3, .fr (.str w), .fr (.int (m : Int)), c6]) rfl (ev_int (i := 26)) rfl hb (by decide)
    obtain ⟨c, hc, mc⟩ := atI_has (xs := letS.cps.toList) h0 (by rw [let_len]; exact h1)
    obtain ⟨w', b', c5', g1, g2, g3, g4⟩ := word_inner hd (T := T) (c3 := c3) (c6 := c6) n (m + 1) (w ++ ⟨#[c]⟩) b1 (.fr (.int (m : Int))) hb1 (lets_snoc hw mc) (by rw [len_cat, len_one]; omega) (by omega)
    exact ⟨w', b', c5', g1, g2, by rw [g3, len_cat, len_one]; omega, .step tg_name (ex_set (i := 4) (ev_catS (ev_var rfl) (ev_ixS (ev_var rfl) he (by decide) hc) (by rw [len_one]; omega)) (by decide)) g4⟩
theorem lets_nil : Lets "" := fun c h => by
  have : ("" : Str).cps.toList = [] := by decide +kernel
  rw [this] at h
  cases h
theorem word_turns (hd : Spec Rd PreDraw PostDraw) {ws : List Str} {c6 : Cell} : ∀ (n m : Nat) (b : List D) (c3 c4 c5 : Cell), GoodBox b →
    (∃ (b' : List D) (c3' c4' c5' : Cell), GoodBox b' ∧ LoopZ K [0, 1] (gName 3) (b__law_word_3 K Rd) [3] (rangeD (m : Int) n) [.own b, .own (ws.map .str), .fr (.str letS), c3, c4, c5, c6] (.nx [.own b', .own (ws.map .str), .fr (.str letS), c3', c4', c5', c6])) ∨
    (∃ (b' : List D) (w : Str) (ρ2 : Rho), PostWd ws b' w ∧ ρ2[0]? = some (.own b') ∧ ρ2[1]? = some (.own (ws.map .str)) ∧ LoopZ K [0, 1] (gName 3) (b__law_word_3 K Rd) [3] (rangeD (m : Int) n) [.own b, .own (ws.map .str), .fr (.str letS), c3, c4, c5, c6] (.rt ρ2 (.fr (.str w))))
  | 0, m, b, c3, c4, c5, hb => .inl ⟨b, c3, c4, c5, hb, .nil⟩
  | n + 1, m, b, c3, c4, c5, hb => by
    rw [rangeD_cons]
    obtain ⟨v1, b1, h1, h2, hb1, he1⟩ := ev_draw (K := K) hd (i := 0) (ρ := [.own b, .own (ws.map .str), .fr (.str letS), .fr (.int (m : Int)), .fr (.str ""), c5, c6]) rfl (ev_int (i := 8)) rfl hb (by decide)
    obtain ⟨v2, b2, h3, h4, hb2, he2⟩ := ev_draw (K := K) hd (i := 0) (ρ := [.own b1, .own (ws.map .str), .fr (.str letS), .fr (.int (m : Int)), .fr (.str ""), c5, c6]) rfl (ev_int (i := 2)) rfl hb1 (by decide)
    have hv : 0 ≤ v1 * v2 ∧ v1 * v2 ≤ 7 := by
      have : v2 = 0 ∨ v2 = 1 := by omega
      rcases this with rfl | rfl
      · rw [Int.mul_zero]; omega
      · rw [Int.mul_one]; omega
    obtain ⟨w, b3, c5', hb3, lw, el, q⟩ := word_inner (K := K) hd (T := .own (ws.map .str)) (c3 := .fr (.int (m : Int))) (c6 := c6) (1 + v1 * v2).toNat 0 "" b2 c5 hb2 lets_nil (by have : ("" : Str).length = 0 := rfl; omega) (by omega)
    have e0 : ("" : Str).length = 0 := rfl
    rw [e0] at el
    have s1 : ExZ K [0, 1] (tAsg (tC (.str "")) (gName 4)) [.own b, .own (ws.map .str), .fr (.str letS), .fr (.int (m : Int)), c4, c5, c6] (.nx [.own b, .own (ws.map .str), .fr (.str letS), .fr (.int (m : Int)), .fr (.str ""), c5, c6]) := ex_set (i := 4) ev_str (by decide)
    have s2 := ex_for (S := [0, 1]) (it_range1 (ag_cons (ev_add (ev_int (i := 1)) (ev_mul he1 he2 (.inl ⟨by omega, by omega⟩))) ag_nil) ⟨by omega, by omega⟩) q (by decide)
    have ht : TsZ K (tAnd (tTest (tOp (rIn K true) (tVar 4) (tVar 1))) (tTest (tOp (rIn K true) (tVar 4) (tTup (tCons (tC (.str "sum")) (tCons (tC (.str "where")) (tCons (tC (.str "in")) (tCons (tC (.str "and")) tNil)))))))) [.own b3, .own (ws.map .str), .fr (.str letS), .fr (.int (m : Int)), .fr (.str w), c5', c6] [.own b3, .own (ws.map .str), .fr (.str letS), .fr (.int (m : Int)), .fr (.str w), c5', c6] ((!decide (w ∈ ws)) && !decide (w ∈ keptS)) :=
      ts_and (ts_test (ev_inL (neg := true) (ev_var (i := 4) rfl) (rd_own (i := 1) rfl))) fun _ => ts_test (ev_inT (neg := true) (zs := keptS) (ev_var (i := 4) rfl) (ev_tup (ds := keptS.map .str) (ag_cons ev_str (ag_cons ev_str (ag_cons ev_str (ag_cons ev_str ag_nil)))) (by decide)).rd)
    by_cases hk : w ∉ ws ∧ w ∉ keptS
    · refine .inr ⟨b3, w, _, ⟨hb3, word_of lw (by omega) (by omega) hk.2, hk.1⟩, ?_, ?_, .ret tg_name (ex_seq s1 (ex_seq s2 (ex_ifT (ts_is ht (by rw [decide_eq_false hk.1, decide_eq_false hk.2]; rfl)) (ex_ret (ev_var (i := 4) rfl)))))⟩ <;> rfl
    · have hf : ((!decide (w ∈ ws)) && !decide (w ∈ keptS)) = false := by
        by_cases ha : w ∈ ws
        · rw [decide_eq_true ha]; rfl
        · by_cases hc : w ∈ keptS
          · rw [decide_eq_true hc]; simp
          · exact absurd ⟨ha, hc⟩ hk
      rcases word_turns hd (ws := ws) (c6 := c6) n (m + 1) b3 (.fr (.int (m : Int))) (.fr (.str w)) c5' hb3 with ⟨b', c3', c4', c5'', hb', q2⟩ | ⟨b', w', ρ2, p1, p2, p3, q2⟩
      · exact .inl ⟨b', c3', c4', c5'', hb', .step tg_name (ex_seq s1 (ex_seq s2 (ex_ifF (ts_is ht hf) ex_next))) q2⟩
      · exact .inr ⟨b', w', ρ2, p1, p2, p3, .step tg_name (ex_seq s1 (ex_seq s2 (ex_ifF (ts_is ht hf) ex_next))) q2⟩
theorem sign_loop {ws : List Str} {b : List D} {c2 c3 c4 c5 : Cell} : ∀ (cs : List Nat) (c6 : Cell), (∀ c ∈ cs, c ∈ letS.cps.toList) → (∃ c ∈ cs, (⟨#[c]⟩ : Str) ∉ ws) → ∃ (w : Str) (ρ2 : Rho), wordB w = true ∧ w ∉ ws ∧ ρ2[0]? = some (.own b) ∧ ρ2[1]? = some (.own (ws.map .str)) ∧ LoopZ K [0, 1] (gName 6) (b__law_word_1 K Rd) [6] (cs.map fun c => .str ⟨#[c]⟩) [.own b, .own (ws.map .str), c2, c3, c4, c5, c6] (.rt ρ2 (.fr (.str w)))
  | [], _, _, h => by obtain ⟨c, hc, _⟩ := h; cases hc
  | c :: cs, c6, hl, h => by
    have ht : TsZ K (tTest (tOp (rIn K true) (tVar 6) (tVar 1))) [.own b, .own (ws.map .str), c2, c3, c4, c5, .fr (.str ⟨#[c]⟩)] [.own b, .own (ws.map .str), c2, c3, c4, c5, .fr (.str ⟨#[c]⟩)] (!decide ((⟨#[c]⟩ : Str) ∈ ws)) := ts_test (ev_inL (neg := true) (ev_var (i := 6) rfl) (rd_own (i := 1) rfl))
    by_cases hc : (⟨#[c]⟩ : Str) ∈ ws
    · obtain ⟨w, ρ2, h1, h2, h3, h4, q⟩ := sign_loop (c2 := c2) (c3 := c3) (c4 := c4) (c5 := c5) (b := b) cs (.fr (.str ⟨#[c]⟩)) (fun x hx => hl x (List.mem_cons_of_mem _ hx)) (by
        obtain ⟨x, hx, nx⟩ := h
        rcases List.mem_cons.mp hx with e | e
        · rw [e] at nx; exact absurd hc nx
        · exact ⟨x, e, nx⟩)
      exact ⟨w, ρ2, h1, h2, h3, h4, .step tg_name (ex_ifF (ts_is ht (by rw [decide_eq_true hc]; rfl)) ex_next) q⟩
    · refine ⟨⟨#[c]⟩, _, one_word (hl c List.mem_cons_self), hc, ?_, ?_, .ret tg_name (ex_ifT (ts_is ht (by rw [decide_eq_false hc]; rfl)) (ex_ret (ev_var (i := 6) rfl)))⟩ <;> rfl
theorem rel_word (hd : Spec Rd PreDraw PostDraw) : CWord (RelOf K [0, 1] (t__law_word K Rd) 7 2) := fun b ws hb hl => by
  have s0 : ExZ K [0, 1] (tAsg (tC (.str "abcdefghijklmnopqrstuvwxyz")) (gName 2)) [.own b, .own (ws.map .str), .no, .no, .no, .no, .no] (.nx [.own b, .own (ws.map .str), .fr (.str letS), .no, .no, .no, .no]) := ex_set (i := 2) ev_str (by decide)
  have key : ∃ (w : Str) (b' : List D) (ρ2 : Rho), PostWd ws b' w ∧ ρ2[0]? = some (.own b') ∧ ρ2[1]? = some (.own (ws.map .str)) ∧ ExZ K [0, 1] (t__law_word K Rd) [.own b, .own (ws.map .str), .no, .no, .no, .no, .no] (.rt ρ2 (.fr (.str w))) := by
    rcases word_turns (K := K) hd (ws := ws) (c6 := .no) 3 0 b .no .no .no hb with ⟨b', c3', c4', c5', hb', q⟩ | ⟨b', w, ρ2, p1, p2, p3, q⟩
    · obtain ⟨w, ρ2, h1, h2, h3, h4, q2⟩ := sign_loop (K := K) (Rd := Rd) (ws := ws) (b := b') (c2 := .fr (.str letS)) (c3 := c3') (c4 := c4') (c5 := c5') letS.cps.toList .no (fun _ h => h) (free_sign hl)
      exact ⟨w, b', ρ2, ⟨hb', h1, h2⟩, h3, h4, ex_seq s0 (ex_seq (ex_for (it_range1 (n := 3) (ag_cons ev_int ag_nil) ⟨by decide, by decide⟩) q (by decide)) (ex_seqR (ex_for (it_str (ev_var (i := 2) rfl)) q2 (by decide))))⟩
    · exact ⟨w, b', ρ2, p1, p2, p3, ex_seq s0 (ex_seqR (ex_for (it_range1 (n := 3) (ag_cons ev_int ag_nil) ⟨by decide, by decide⟩) q (by decide)))⟩
  obtain ⟨w, b', ρ2, p1, p2, p3, h⟩ := key
  exact ⟨w, b', p1, rfl, ρ2, .inl h, fin_mu2 (by decide) (by decide) p2 p3⟩
end
end Z

set_option Elab.async false
set_option linter.all false
set_option maxRecDepth 100000
set_option maxHeartbeats 2000000
/-! LawE: leaves of a law's dimensions: sorted paths, plain leaves. -/
namespace Z
open PySem PySem.Spec PyProof.Rows L2
open Evl (Ex Ex.refl Ex.trans Ex.new ex_rd ex_l ex_t sq_of st_of fresh_back sz_of sz_lt)
structure GoodL (lv : List (List Str)) (n : Nat) : Prop where
  few : 2 ≤ lv.length
  most : lv.length ≤ 8
  n1 : 1 ≤ n
  n3 : n ≤ 3
  depth : ∀ ws ∈ lv, ws.length = n
  words : ∀ ws ∈ lv, GoodW ws
  asc : (lv.map pathS).Pairwise fun x y => x.cps.toList < y.cps.toList
theorem GoodL.dm {lv : List (List Str)} {n : Nat} (h : GoodL lv n) {x : Str} (hx : wordB x = true) : (Dm.mk x lv).Good n := ⟨hx, h.few, h.most, h.n1, h.n3, h.depth, h.words, h.asc⟩
/-! ### sorted texts -/
theorem str_eq {a b : Str} (h : a.cps.toList = b.cps.toList) : a = b := Str.ext' (Array.toList_inj.mp h)
theorem rising_le : ∀ (l : List Str) (p : Str), risingS p l = true → (∀ x ∈ l, p.cps.toList ≤ x.cps.toList) ∧ l.Pairwise fun a b => a.cps.toList ≤ b.cps.toList
  | [], p, _ => ⟨fun _ h => (by cases h), .nil⟩
  | x :: l, p, h => by
    have h' : (!ltCps x.cps.toList p.cps.toList && risingS x l) = true := h
    rw [Bool.and_eq_true, ltCps_eq] at h'
    have hx : p.cps.toList ≤ x.cps.toList := List.not_lt.mp fun z => by rw [decide_eq_true z] at h'; exact absurd h'.1 (by simp)
    obtain ⟨h1, h2⟩ := rising_le l x h'.2
    exact ⟨fun y hy => by
      rcases List.mem_cons.mp hy with e | e
      · rw [e]; exact hx
      · exact List.le_trans hx (h1 y e), List.pairwise_cons.mpr ⟨h1, h2⟩⟩
theorem sorted_le {l : List Str} (h : sortedS l = true) : l.Pairwise fun a b => a.cps.toList ≤ b.cps.toList := by
  cases l with
  | nil => exact .nil
  | cons x l =>
    obtain ⟨h1, h2⟩ := rising_le l x h
    exact List.pairwise_cons.mpr ⟨h1, h2⟩
def leP (a b : List Str) : Bool := !ltCps (pathS b).cps.toList (pathS a).cps.toList
def sortW (lv : List (List Str)) : List (List Str) := lv.mergeSort leP
theorem leP_iff {a b : List Str} : leP a b = true ↔ (pathS a).cps.toList ≤ (pathS b).cps.toList := by
  unfold leP
  rw [ltCps_eq]
  constructor
  · intro h
    exact List.not_lt.mp fun z => by rw [decide_eq_true z] at h; exact absurd h (by simp)
  · intro h
    rw [decide_eq_false (List.not_lt.mpr h)]
    rfl
theorem sortW_perm (lv : List (List Str)) : (sortW lv).Perm lv := List.mergeSort_perm ..
theorem sortW_le (lv : List (List Str)) : (sortW lv).Pairwise fun a b => (pathS a).cps.toList ≤ (pathS b).cps.toList := by
  refine (List.pairwise_mergeSort (le := leP) (fun a b c h1 h2 => ?_) (fun a b => ?_) lv).imp fun h => leP_iff.mp h
  · exact leP_iff.mpr (List.le_trans (leP_iff.mp h1) (leP_iff.mp h2))
  · rw [Bool.or_eq_true, leP_iff, leP_iff]
    exact List.le_total _ _
theorem sorted_is {lv : List (List Str)} {ys : List Str} (hp : ys.Perm (lv.map pathS)) (hs : sortedS ys = true) : ys = (sortW lv).map pathS := by
  refine List.Perm.eq_of_pairwise (le := fun a b => a.cps.toList ≤ b.cps.toList) (fun a b _ _ h1 h2 => str_eq (List.le_antisymm h1 h2)) (sorted_le hs) ?_ (hp.trans ((sortW_perm lv).map pathS).symm)
  exact List.pairwise_map.mpr (sortW_le lv)
theorem good_sort {lv : List (List Str)} {n : Nat} (few : 2 ≤ lv.length) (most : lv.length ≤ 8) (n1 : 1 ≤ n) (n3 : n ≤ 3) (depth : ∀ ws ∈ lv, ws.length = n) (words : ∀ ws ∈ lv, GoodW ws) (nd : lv.Nodup) : GoodL (sortW lv) n := by
  have pm := sortW_perm lv
  have mem : ∀ ws ∈ sortW lv, ws ∈ lv := fun ws h => pm.mem_iff.mp h
  refine ⟨by rw [pm.length_eq]; exact few, by rw [pm.length_eq]; exact most, n1, n3, fun ws h => depth ws (mem ws h), fun ws h => words ws (mem ws h), List.pairwise_map.mpr ?_⟩
  have nd2 : (sortW lv).Nodup := pm.symm.nodup nd
  refine (List.Pairwise.and (sortW_le lv) nd2).imp_of_mem fun {a b} ha hb h => ?_
  refine Classical.byContradiction fun z => h.2 ?_
  exact path_inj (words a (mem a ha)) (words b (mem b hb)) (str_eq (List.le_antisymm h.1 (List.not_lt.mp z)))
section
variable {K : PySem.W.Frag} {ρ ρ1 : Rho} {te : TE}
/-- tuple(sorted(paths)) -/
theorem ev_sorted {lv : List (List Str)} (h : RdZ K te ρ ρ1 (.lst ((lv.map pathS).map D.str))) (hl : lv.length < 64) : EvZ K (tCB (rTupOf K) (tCons (tCB (rSortedS K) (tCons te tNil)) tNil)) ρ ρ1 (.tup (((sortW lv).map pathS).map D.str)) := fun M G H σ S Q q => by
  refine en_sortedS h (by rw [List.length_map]; exact hl) M G H σ S _ fun p ys G1 H1 hp hs g1 s1 hn gp hp1 dz => ?_
  rw [sorted_is hp hs] at hp1 dz
  exact ⟨p, _, rfl, .inl ⟨sq_of hp1, fun l hl => q _ _ _ (g1.trans (.new hl s1.sub)) (s1.new hl) (.tup upd_same (dz.mono (Ex.new (fresh_back s1.sub hl))))⟩⟩
/-! ### _law_plain_leaves -/
def headW : Nat → List Str
  | 1 => []
  | 2 => ["m"]
  | _ => ["m", "p"]
def othW : Nat → List Str
  | 1 => []
  | 2 => ["n"]
  | _ => ["n", "q"]
def markS (k : Nat) : Str := ⟨#[97 + k]⟩
def plainW (dp many k : Nat) : List Str := (if 2 * k < many then headW dp else othW dp) ++ [markS k]
def plainL (dp many : Nat) : List (List Str) := (List.range many).map (plainW dp many)
theorem plain_fin : ∀ dp ∈ [1, 2, 3], ∀ many ∈ [2, 3, 4, 5, 6, 7, 8], (∀ ws ∈ plainL dp many, ws.length = dp ∧ ∀ w ∈ ws, wordB w = true) ∧ ((plainL dp many).map pathS).Pairwise fun x y => x.cps.toList < y.cps.toList := by decide +kernel
theorem plain_good {dp many : Nat} (h1 : 1 ≤ dp) (h3 : dp ≤ 3) (h2 : 2 ≤ many) (h8 : many ≤ 8) : GoodL (plainL dp many) dp := by
  have a : dp ∈ [1, 2, 3] := by
    have : dp = 1 ∨ dp = 2 ∨ dp = 3 := by omega
    rcases this with rfl | rfl | rfl <;> simp
  have b : many ∈ [2, 3, 4, 5, 6, 7, 8] := by
    have : many = 2 ∨ many = 3 ∨ many = 4 ∨ many = 5 ∨ many = 6 ∨ many = 7 ∨ many = 8 := by omega
    rcases this with rfl | rfl | rfl | rfl | rfl | rfl | rfl <;> simp
  obtain ⟨p, q⟩ := plain_fin dp a many b
  have hl : (plainL dp many).length = many := by unfold plainL; rw [List.length_map, List.length_range]
  exact ⟨by rw [hl]; exact h2, by rw [hl]; exact h8, h1, h3, fun ws h => (p ws h).1, fun ws h => (p ws h).2, q⟩
def hs3 : List Str := ["", "m/", "m/p/"]
def os3 : List Str := ["", "n/", "n/q/"]
def marks8 : Str := "abcdefgh"
theorem plain_str : ∀ dp ∈ [1, 2, 3], ∀ k ∈ [0, 1, 2, 3, 4, 5, 6, 7], ((hs3[dp - 1]?.getD ("" : Str)) ++ markS k = pathS (headW dp ++ [markS k])) ∧ ((os3[dp - 1]?.getD ("" : Str)) ++ markS k = pathS (othW dp ++ [markS k])) ∧ marks8.cps.toList[k]? = some (97 + k) ∧ (hs3[dp - 1]?.getD ("" : Str)).length ≤ 10 ∧ (os3[dp - 1]?.getD ("" : Str)).length ≤ 10 := by decide +kernel
theorem plain_loop {dp many : Nat} (h1 : 1 ≤ dp) (h3 : dp ≤ 3) (h8 : many ≤ 8) : ∀ (n m : Nat) (c6 : Cell), m + n ≤ many → ∃ c6', LoopZ K [] (gName 6) (b__law_plain_leaves_1 K) [6] (rangeD (m : Int) n) [.fr (.int (dp : Int)), .fr (.int (many : Int)), .fr (.str marks8), .fr (.tup (hs3.map .str)), .fr (.tup (os3.map .str)), .own (((List.range m).map (plainW dp many)).map fun ws => .str (pathS ws)), c6]
    (.nx [.fr (.int (dp : Int)), .fr (.int (many : Int)), .fr (.str marks8), .fr (.tup (hs3.map .str)), .fr (.tup (os3.map .str)), .own (((List.range (m + n)).map (plainW dp many)).map fun ws => .str (pathS ws)), c6'])
  | 0, m, c6, _ => ⟨c6, .nil⟩
  | n + 1, m, c6, hm => by
    rw [rangeD_cons]
    obtain ⟨c6', q⟩ := plain_loop h1 h3 h8 (dp := dp) (many := many) n (m + 1) (.fr (.int (m : Int))) (by omega)
    rw [show m + 1 + n = m + (n + 1) by omega] at q
    have er : (((List.range (m + 1)).map (plainW dp many)).map fun ws => D.str (pathS ws)) = (((List.range m).map (plainW dp many)).map fun ws => D.str (pathS ws)) ++ [.str (pathS (plainW dp many m))] := by
      rw [List.range_succ, List.map_append, List.map_append]
      rfl
    rw [er] at q
    have hl : ((((List.range m).map (plainW dp many)).map fun ws => D.str (pathS ws))).length < 100000 := by rw [List.length_map, List.length_map, List.length_range]; omega
    have a : dp ∈ [1, 2, 3] := by
      have : dp = 1 ∨ dp = 2 ∨ dp = 3 := by omega
      rcases this with rfl | rfl | rfl <;> simp
    have b : m ∈ [0, 1, 2, 3, 4, 5, 6, 7] := by
      have : m = 0 ∨ m = 1 ∨ m = 2 ∨ m = 3 ∨ m = 4 ∨ m = 5 ∨ m = 6 ∨ m = 7 := by omega
      rcases this with rfl | rfl | rfl | rfl | rfl | rfl | rfl | rfl <;> simp
    obtain ⟨f1, f2, f3, f4, f5⟩ := plain_str dp a m b
    have dlt : dp - 1 < 3 := by omega
    have e1 : ((dp : Int) - 1) = ((dp - 1 : Nat) : Int) := by omega
    have ht := ts_test (ev_lt (K := K) (ev_mul (ev_int (i := 2)) (ev_i1 (ρ := [.fr (.int (dp : Int)), .fr (.int (many : Int)), .fr (.str marks8), .fr (.tup (hs3.map .str)), .fr (.tup (os3.map .str)), .own (((List.range m).map (plainW dp many)).map fun ws => .str (pathS ws)), .fr (.int (m : Int))]) (i := 6) (n := (m : Int)) rfl) (.inl ⟨by decide, by decide⟩)) (ev_i1 (i := 1) (n := (many : Int)) rfl))
    by_cases hc : 2 * m < many
    · have ew : pathS (plainW dp many m) = (hs3[dp - 1]?.getD ("" : Str)) ++ markS m := by unfold plainW; rw [if_pos hc, f1]
      rw [ew] at q
      refine ⟨c6', .step tg_name (ex_ifT (ts_is ht (decide_eq_true (by omega))) (ex_app (i := 5) (ev_catS (ev_ixT (ds := hs3.map .str) (ev_var (i := 3) rfl) (ev_sub (ev_i1 (i := 0) rfl) ev_int) (at_of e1 ?_)) (ev_ixS (ev_var (i := 2) rfl) (ev_i1 (i := 6) (n := (m : Int)) rfl) (by decide) (atI_nat f3)) ?_) rfl rfl hl)) q⟩
      · rw [List.getElem?_map]
        have : hs3[dp - 1]? = some (hs3[dp - 1]?.getD ("" : Str)) := by rw [List.getElem?_eq_getElem (show dp - 1 < hs3.length from dlt)]; rfl
        rw [this]
        rfl
      · rw [len_one]; omega
    · have ew : pathS (plainW dp many m) = (os3[dp - 1]?.getD ("" : Str)) ++ markS m := by unfold plainW; rw [if_neg hc, f2]
      rw [ew] at q
      refine ⟨c6', .step tg_name (ex_ifF (ts_is ht (decide_eq_false (by omega))) (ex_app (i := 5) (ev_catS (ev_ixT (ds := os3.map .str) (ev_var (i := 4) rfl) (ev_sub (ev_i1 (i := 0) rfl) ev_int) (at_of e1 ?_)) (ev_ixS (ev_var (i := 2) rfl) (ev_i1 (i := 6) (n := (m : Int)) rfl) (by decide) (atI_nat f3)) ?_) rfl rfl hl)) q⟩
      · rw [List.getElem?_map]
        have : os3[dp - 1]? = some (os3[dp - 1]?.getD ("" : Str)) := by rw [List.getElem?_eq_getElem (show dp - 1 < os3.length from dlt)]; rfl
        rw [this]
        rfl
      · rw [len_one]; omega
def CPlain (R : Rel) : Prop := ∀ (dp many : Nat), 1 ≤ dp → dp ≤ 3 → 2 ≤ many → many ≤ 8 → R ([.int (dp : Int), .int (many : Int)].map .fr) (.fr (lvD (plainL dp many))) ([.int (dp : Int), .int (many : Int)].map .fr)
theorem rel_plain : CPlain (RelOf K [] (t__law_plain_leaves K) 7 2) := fun dp many h1 h3 h2 h8 => by
  obtain ⟨c6', q⟩ := plain_loop (K := K) h1 h3 h8 (dp := dp) (many := many) many 0 .no (by omega)
  rw [Nat.zero_add] at q
  exact rel_rt (ds := [.int (dp : Int), .int (many : Int)]) ⟨_, ex_seq (ex_set (i := 2) ev_str (by decide)) (ex_seq (ex_set (i := 3) (ev_tup (ds := hs3.map .str) (ag_cons ev_str (ag_cons ev_str (ag_cons ev_str ag_nil))) (by decide)) (by decide)) (ex_seq (ex_set (i := 4) (ev_tup (ds := os3.map .str) (ag_cons ev_str (ag_cons ev_str (ag_cons ev_str ag_nil))) (by decide)) (by decide)) (ex_seq (ex_setN (i := 5) (en_lst ag_nil (by decide)) .refl (by decide)) (ex_seq (ex_for (it_range1 (n := (many : Int)) (ag_cons (ev_i1 (i := 1) rfl) ag_nil) ⟨by omega, by omega⟩) (by rw [Int.toNat_natCast]; exact q) (by decide)) (ex_ret (ev_tupO (i := 5) rfl))))))⟩
end
end Z

set_option Elab.async false
set_option linter.all false
set_option maxRecDepth 100000
set_option maxHeartbeats 2000000
/-! LawF: _law_leaves. -/
namespace Z
open PySem PySem.Spec PyProof.Rows L2
open Evl (Ex Ex.refl Ex.trans Ex.new ex_rd ex_l ex_t sq_of st_of fresh_back sz_of sz_lt)
structure PoolOk (ws : List Str) : Prop where
  nd : ws.Nodup
  w : ∀ x ∈ ws, wordB x = true
  l : ws.length ≤ 20
structure LvOk (dp : Nat) (lv : List (List Str)) : Prop where
  nd : lv.Nodup
  g : ∀ ws ∈ lv, GoodW ws ∧ ws.length = dp
def poolD (ws : List Str) : D := .lst (ws.map .str)
def psD (lv : List (List Str)) : List D := (lv.map pathS).map .str
theorem psD_len (lv : List (List Str)) : (psD lv).length = lv.length := by unfold psD; rw [List.length_map, List.length_map]
theorem psD_snoc (lv : List (List Str)) (us : List Str) : psD lv ++ [.str (pathS us)] = psD (lv ++ [us]) := by unfold psD; rw [List.map_append, List.map_append]; rfl
theorem path_mem {dp : Nat} {lv : List (List Str)} (h : LvOk dp lv) {us : List Str} (hu : GoodW us) : pathS us ∈ lv.map pathS ↔ us ∈ lv := by
  constructor
  · intro hm
    obtain ⟨ws, hw, e⟩ := List.mem_map.mp hm
    rw [← path_inj (h.g ws hw).1 hu e]
    exact hw
  · exact fun hm => List.mem_map_of_mem hm
theorem LvOk.snoc {dp : Nat} {lv : List (List Str)} (h : LvOk dp lv) {us : List Str} (hu : GoodW us) (hl : us.length = dp) (hn : us ∉ lv) : LvOk dp (lv ++ [us]) := by
  refine ⟨?_, fun ws hw => ?_⟩
  · rw [List.nodup_append]
    refine ⟨h.nd, by simp, fun a ha b hb e => ?_⟩
    rw [List.mem_singleton] at hb
    subst hb
    subst e
    exact hn ha
  · rcases List.mem_append.mp hw with z | z
    · exact h.g ws z
    · rw [List.mem_singleton.mp z]; exact ⟨hu, hl⟩
theorem join_small {us : List Str} (h : GoodW us) (hl : us.length ≤ 100) : (us.map (·.length)).sum + us.length * slS.length ≤ 90000 := by
  have e : slS.length = 1 := by decide +kernel
  rw [e]
  have : (us.map (·.length)).sum ≤ 8 * us.length := by
    clear hl
    induction us with
    | nil => exact Nat.le_refl _
    | cons w us ih =>
      rw [List.map_cons, List.sum_cons, List.length_cons]
      have := ih fun x hx => h x (List.mem_cons_of_mem _ hx)
      have := (word_len (h w List.mem_cons_self)).2
      omega
  omega
section
variable {K : PySem.W.Frag} {Rd Rw : Rel} {ρ ρ1 : Rho} {te : TE}
theorem ev_neg {i : Int} (h : EvZ K te ρ ρ1 (.int i)) : EvZ K (tUn (rU fun i => .int (-i)) te) ρ ρ1 (.int (-i)) := fun M G H σ S Q q =>
  h M G H σ S _ fun v G1 H1 g1 s1 dv => ⟨i, dv.int_inv, q _ G1 H1 g1 s1 (.int _)⟩
/-! ### the pools -/
theorem pool_words (hw : CWord Rw) {dp many lvl : Nat} {c3 c7 c8 c9 c10 c11 : Cell} : ∀ (n m : Nat) (ws : List Str) (b : List D) (c6 : Cell), GoodBox b → PoolOk ws → ws.length ≤ m → min m 2 ≤ ws.length → m + n ≤ 8 → ∃ (ws' : List Str) (b' : List D) (c6' : Cell), GoodBox b' ∧ PoolOk ws' ∧ ws'.length ≤ 8 ∧ min (m + n) 2 ≤ ws'.length ∧
    LoopZ K [0] (gName 6) (b__law_leaves_5 K Rd Rw) [6] (rangeD (m : Int) n) [.own b, .fr (.int (dp : Int)), .fr (.int (many : Int)), c3, .fr (.int (lvl : Int)), .own (ws.map .str), c6, c7, c8, c9, c10, c11] (.nx [.own b', .fr (.int (dp : Int)), .fr (.int (many : Int)), c3, .fr (.int (lvl : Int)), .own (ws'.map .str), c6', c7, c8, c9, c10, c11])
  | 0, m, ws, b, c6, hb, hp, hl, h2, hm => ⟨ws, b, c6, hb, hp, by omega, h2, .nil⟩
  | n + 1, m, ws, b, c6, hb, hp, hl, h2, hm => by
    rw [rangeD_cons]
    have ht : TsZ K (tOr (tTest (tOp rEq (tVar 4) (tOp rSubI (tVar 1) (tC (.int 1))))) (tTest (tOp rLtI (tVar 6) (tC (.int 2))))) [.own b, .fr (.int (dp : Int)), .fr (.int (many : Int)), c3, .fr (.int (lvl : Int)), .own (ws.map .str), .fr (.int (m : Int)), c7, c8, c9, c10, c11] [.own b, .fr (.int (dp : Int)), .fr (.int (many : Int)), c3, .fr (.int (lvl : Int)), .own (ws.map .str), .fr (.int (m : Int)), c7, c8, c9, c10, c11] (decide ((lvl : Int) = (dp : Int) - 1) || decide ((m : Int) < 2)) :=
      ts_or (ts_test (ev_eqI (ev_i1 (i := 4) rfl) (ev_sub (ev_i1 (i := 1) rfl) ev_int))) fun _ => ts_test (ev_lt (ev_i1 (i := 6) rfl) ev_int)
    by_cases hc : (lvl : Int) = (dp : Int) - 1 ∨ (m : Int) < 2
    · obtain ⟨w, b1, ⟨hb1, hw1, hn1⟩, hR⟩ := hw b ws hb hp.l
      have hp1 : PoolOk (ws ++ [w]) := by
        refine ⟨?_, fun x hx => ?_, by rw [List.length_append]; show ws.length + 1 ≤ 20; omega⟩
        · rw [List.nodup_append]
          refine ⟨hp.nd, by simp, fun a ha y hy e => ?_⟩
          rw [List.mem_singleton] at hy
          subst hy
          subst e
          exact hn1 ha
        · rcases List.mem_append.mp hx with z | z
          · exact hp.w x z
          · rw [List.mem_singleton.mp z]; exact hw1
      have hl1 : (ws ++ [w]).length = ws.length + 1 := by rw [List.length_append]; rfl
      obtain ⟨ws', b', c6', g1, g2, g3, g4, q⟩ := pool_words hw (dp := dp) (many := many) (lvl := lvl) (c3 := c3) (c7 := c7) (c8 := c8) (c9 := c9) (c10 := c10) (c11 := c11) n (m + 1) (ws ++ [w]) b1 (.fr (.int (m : Int))) hb1 hp1 (by omega) (by omega) (by omega)
      rw [List.map_append] at q
      refine ⟨ws', b', c6', g1, g2, g3, by rw [show m + (n + 1) = m + 1 + n by omega]; exact g4, .step tg_name (ex_ifT (ts_is ht ?_) (ex_app (i := 5) (ds := ws.map .str) (ev_callMT (i := 0) (j := 5) (by decide) rfl rfl hR) rfl rfl (by rw [List.length_map]; have := hp.l; omega))) q⟩
      rcases hc with z | z
      · rw [decide_eq_true z]; rfl
      · rw [decide_eq_true z, Bool.or_true]
    · obtain ⟨ws', b', c6', g1, g2, g3, g4, q⟩ := pool_words hw (dp := dp) (many := many) (lvl := lvl) (c3 := c3) (c7 := c7) (c8 := c8) (c9 := c9) (c10 := c10) (c11 := c11) n (m + 1) ws b (.fr (.int (m : Int))) hb hp (by omega) (by omega) (by omega)
      refine ⟨ws', b', c6', g1, g2, g3, by rw [show m + (n + 1) = m + 1 + n by omega]; exact g4, .step tg_name (ex_ifF (ts_is ht ?_) ex_next) q⟩
      rw [decide_eq_false fun z => hc (.inl z), decide_eq_false fun z => hc (.inr z)]
      rfl
theorem pool_levels (hw : CWord Rw) {dp many : Nat} (h2 : 2 ≤ many) (h8 : many ≤ 8) {c7 c8 c9 c10 c11 : Cell} : ∀ (n m : Nat) (pp : List (List Str)) (b : List D) (c4 c5 c6 : Cell), GoodBox b → (∀ ws ∈ pp, PoolOk ws ∧ 2 ≤ ws.length) → pp.length = m → m + n ≤ 50 → ∃ (pp' : List (List Str)) (b' : List D) (c4' c5' c6' : Cell), GoodBox b' ∧ (∀ ws ∈ pp', PoolOk ws ∧ 2 ≤ ws.length) ∧ pp'.length = m + n ∧
    LoopZ K [0] (gName 4) (b__law_leaves_6 K Rd Rw) [4] (rangeD (m : Int) n) [.own b, .fr (.int (dp : Int)), .fr (.int (many : Int)), .own (pp.map poolD), c4, c5, c6, c7, c8, c9, c10, c11] (.nx [.own b', .fr (.int (dp : Int)), .fr (.int (many : Int)), .own (pp'.map poolD), c4', c5', c6', c7, c8, c9, c10, c11])
  | 0, m, pp, b, c4, c5, c6, hb, hp, hl, hm => ⟨pp, b, c4, c5, c6, hb, hp, hl, .nil⟩
  | n + 1, m, pp, b, c4, c5, c6, hb, hp, hl, hm => by
    rw [rangeD_cons]
    obtain ⟨ws, b1, c6a, hb1, p1, p2, p3, q1⟩ := pool_words (K := K) (Rd := Rd) hw (dp := dp) (many := many) (lvl := m) (c3 := .own (pp.map poolD)) (c7 := c7) (c8 := c8) (c9 := c9) (c10 := c10) (c11 := c11) many 0 [] b c6 hb ⟨.nil, fun _ h => (by cases h), by decide⟩ (Nat.le_refl _) (by decide) (by omega)
    obtain ⟨pp', b', c4', c5', c6', g1, g2, g3, q⟩ := pool_levels hw h2 h8 (dp := dp) (c7 := c7) (c8 := c8) (c9 := c9) (c10 := c10) (c11 := c11) n (m + 1) (pp ++ [ws]) b1 (.fr (.int (m : Int))) (.fr (poolD ws)) c6a hb1 (fun x hx => by
      rcases List.mem_append.mp hx with z | z
      · exact hp x z
      · rw [List.mem_singleton.mp z]; exact ⟨p1, by omega⟩) (by rw [List.length_append, hl]; rfl) (by omega)
    rw [List.map_append] at q
    have et : ((many : Int)).toNat = many := Int.toNat_natCast many
    rw [← et] at q1
    refine ⟨pp', b', c4', c5', c6', g1, g2, by omega, .step tg_name (ex_seq (ex_setN (i := 5) (en_lst ag_nil (by decide)) .refl (by decide)) (ex_seq (ex_for (it_range1 (n := (many : Int)) (ag_cons (ev_i1 (i := 2) rfl) ag_nil) ⟨by omega, by omega⟩) q1 (by decide)) (ex_freeze (i := 5) (ds := ws.map .str) rfl (ex_app (i := 3) (ds := pp.map poolD) (ev_var (i := 5) rfl) rfl rfl (by rw [List.length_map]; omega))))) q⟩
/-! ### the paths -/
theorem pick_comp (hd : Spec Rd PreDraw PostDraw) {c1 c2 c3 c4 c5 c6 c7 c8 c9 c10 : Cell} : ∀ (pp : List (List Str)) (b : List D), GoodBox b → (∀ ws ∈ pp, PoolOk ws ∧ 2 ≤ ws.length) → ∃ (us : List Str) (b' : List D), GoodBox b' ∧ us.length = pp.length ∧ GoodW us ∧
    CompZ K (gName 11) tYes (e__law_leaves_3 K Rd Rw) [11] [11] (pp.map poolD) [.own b, c1, c2, c3, c4, c5, c6, c7, c8, c9, c10, .no] (us.map .str) [.own b', c1, c2, c3, c4, c5, c6, c7, c8, c9, c10, .no]
  | [], b, hb, _ => ⟨[], b, hb, rfl, fun _ h => (by cases h), .nil⟩
  | ws :: pp, b, hb, hp => by
    obtain ⟨p1, p2⟩ := hp ws List.mem_cons_self
    obtain ⟨v, b1, h0, h1, hb1, he⟩ := ev_draw (K := K) hd (i := 0) (ρ := [.own b, c1, c2, c3, c4, c5, c6, c7, c8, c9, c10, .fr (poolD ws)]) rfl (ev_lenL (ds := ws.map .str) (ev_var (i := 11) rfl).rd) rfl hb (by rw [List.length_map]; omega)
    rw [List.length_map] at h1
    obtain ⟨x, hx, mx⟩ := atI_has (xs := ws) h0 h1
    obtain ⟨us, b', g1, g2, g3, q⟩ := pick_comp hd (c1 := c1) (c2 := c2) (c3 := c3) (c4 := c4) (c5 := c5) (c6 := c6) (c7 := c7) (c8 := c8) (c9 := c9) (c10 := c10) pp b1 hb1 fun y hy => hp y (List.mem_cons_of_mem _ hy)
    have hx' : atI (ws.map D.str) v = some (.str x) := by
      have ev := Int.toNat_of_nonneg h0
      rw [← ev] at hx ⊢
      have lt : v.toNat < ws.length := by omega
      rw [atI_nat (List.getElem?_eq_getElem lt)] at hx
      refine atI_nat ?_
      rw [List.getElem?_map, List.getElem?_eq_getElem lt]
      exact congrArg (Option.map D.str) hx
    exact ⟨x :: us, b', g1, by rw [List.length_cons, List.length_cons, g2], fun y hy => by
      rcases List.mem_cons.mp hy with e | e
      · rw [e]; exact p1.w x mx
      · exact g3 y e, .yes tg_name ts_yes (ev_ixL (ds := ws.map .str) (ev_var (i := 11) rfl) he hx') q⟩
theorem path_turns (hd : Spec Rd PreDraw PostDraw) {dp many : Nat} (h8 : many ≤ 8) {pp : List (List Str)} (hpp : ∀ ws ∈ pp, PoolOk ws ∧ 2 ≤ ws.length) (hl : pp.length = dp) (h3 : dp ≤ 3) {c4 c5 c6 c10 : Cell} : ∀ (n m : Nat) (lv : List (List Str)) (b : List D) (c8 c9 : Cell), GoodBox b → LvOk dp lv → lv.length ≤ many → ∃ (lv' : List (List Str)) (b' : List D) (c8' c9' : Cell), GoodBox b' ∧ LvOk dp lv' ∧ lv'.length ≤ many ∧
    LoopZ K [0] (gName 8) (b__law_leaves_4 K Rd Rw) [8] (rangeD (m : Int) n) [.own b, .fr (.int (dp : Int)), .fr (.int (many : Int)), .fr (.lst (pp.map poolD)), c4, c5, c6, .own (psD lv), c8, c9, c10, .no] (.nx [.own b', .fr (.int (dp : Int)), .fr (.int (many : Int)), .fr (.lst (pp.map poolD)), c4, c5, c6, .own (psD lv'), c8', c9', c10, .no])
  | 0, m, lv, b, c8, c9, hb, hv, hm => ⟨lv, b, c8, c9, hb, hv, hm, .nil⟩
  | n + 1, m, lv, b, c8, c9, hb, hv, hm => by
    rw [rangeD_cons]
    obtain ⟨us, b1, hb1, u1, u2, q1⟩ := pick_comp (K := K) (Rw := Rw) hd (c1 := .fr (.int (dp : Int))) (c2 := .fr (.int (many : Int))) (c3 := .fr (.lst (pp.map poolD))) (c4 := c4) (c5 := c5) (c6 := c6) (c7 := .own (psD lv)) (c8 := .fr (.int (m : Int))) (c9 := c9) (c10 := c10) pp b hb hpp
    have hn : EvN K (tLc (iList K (tVar 3)) (gName 11) tYes (e__law_leaves_3 K Rd Rw) [11]) [.own b, .fr (.int (dp : Int)), .fr (.int (many : Int)), .fr (.lst (pp.map poolD)), c4, c5, c6, .own (psD lv), .fr (.int (m : Int)), c9, c10, .no] [.own b1, .fr (.int (dp : Int)), .fr (.int (many : Int)), .fr (.lst (pp.map poolD)), c4, c5, c6, .own (psD lv), .fr (.int (m : Int)), c9, c10, .no] (us.map .str) :=
      en_lc (A := [11]) (it_list (ev_var (i := 3) rfl)) q1 (by decide) (by rw [List.length_map]; omega)
    have s1 := ex_set (S := [0]) (i := 9) (ev_join (a := slS) ev_str hn.rd (join_small u2 (by omega))) (by decide)
    have ht : TsZ K (tAnd (tTest (tOp (rIn K true) (tVar 9) (tVar 7))) (tTest (tOp rLtI (tCB (rLenX K) (tCons (tVar 7) tNil)) (tVar 2)))) [.own b1, .fr (.int (dp : Int)), .fr (.int (many : Int)), .fr (.lst (pp.map poolD)), c4, c5, c6, .own (psD lv), .fr (.int (m : Int)), .fr (.str (pathS us)), c10, .no] [.own b1, .fr (.int (dp : Int)), .fr (.int (many : Int)), .fr (.lst (pp.map poolD)), c4, c5, c6, .own (psD lv), .fr (.int (m : Int)), .fr (.str (pathS us)), c10, .no] ((!decide (pathS us ∈ lv.map pathS)) && decide (((psD lv).length : Int) < (many : Int))) :=
      ts_and (ts_test (ev_inL (neg := true) (ev_var (i := 9) rfl) (rd_own (i := 7) rfl))) fun _ => ts_test (ev_lt (ev_lenL (rd_own (i := 7) rfl)) (ev_i1 (i := 2) rfl))
    by_cases hc : us ∉ lv ∧ lv.length < many
    · obtain ⟨lv', b', c8', c9', g1, g2, g3, q⟩ := path_turns hd h8 hpp hl h3 (c4 := c4) (c5 := c5) (c6 := c6) (c10 := c10) n (m + 1) (lv ++ [us]) b1 (.fr (.int (m : Int))) (.fr (.str (pathS us))) hb1 (hv.snoc u2 (u1.trans hl) hc.1) (by rw [List.length_append]; show lv.length + 1 ≤ many; omega)
      rw [← psD_snoc] at q
      refine ⟨lv', b', c8', c9', g1, g2, g3, .step tg_name (ex_seq s1 (ex_ifT (ts_is ht ?_) (ex_app (i := 7) (ds := psD lv) (ev_var (i := 9) rfl) rfl rfl (by rw [psD_len]; omega)))) q⟩
      rw [decide_eq_false fun z => hc.1 ((path_mem hv u2).mp z), psD_len, decide_eq_true (show (lv.length : Int) < (many : Int) by omega)]
      rfl
    · obtain ⟨lv', b', c8', c9', g1, g2, g3, q⟩ := path_turns hd h8 hpp hl h3 (c4 := c4) (c5 := c5) (c6 := c6) (c10 := c10) n (m + 1) lv b1 (.fr (.int (m : Int))) (.fr (.str (pathS us))) hb1 hv hm
      refine ⟨lv', b', c8', c9', g1, g2, g3, .step tg_name (ex_seq s1 (ex_ifF (ts_is ht ?_) ex_next)) q⟩
      by_cases z : us ∈ lv
      · rw [decide_eq_true ((path_mem hv u2).mpr z)]; rfl
      · rw [psD_len, decide_eq_false (show ¬ (lv.length : Int) < (many : Int) from fun y => hc ⟨z, by omega⟩), Bool.and_false]
end
end Z

set_option Elab.async false
set_option linter.all false
set_option maxRecDepth 100000
set_option maxHeartbeats 2000000
/-! LawG: _law_leaves to its end; _law_level, _law_a_grouping. -/
namespace Z
open PySem PySem.Spec PyProof.Rows L2
open Evl (Ex Ex.refl Ex.trans Ex.new ex_rd ex_l ex_t sq_of st_of fresh_back sz_of sz_lt)
theorem cut_init {xs : List D} {x : D} : cutD (xs ++ [x]) none (some (-1)) = xs := by
  unfold cutD
  have e0 : HT.sIx (xs ++ [x]).length 0 none = 0 := rfl
  have e1 : HT.sIx (xs ++ [x]).length (xs ++ [x]).length (some (-1)) = xs.length := by
    unfold HT.sIx
    rw [List.length_append]
    show (if (-1 : Int) < 0 then ((-1 : Int) + ((xs.length + 1 : Nat) : Int)).toNat else _) = _
    rw [if_pos (by decide)]
    omega
  rw [e0, e1, List.drop_zero, Nat.sub_zero]
  exact List.take_left
theorem split_last {α : Type} : ∀ (xs : List α), 1 ≤ xs.length → ∃ ys y, xs = ys ++ [y]
  | [x], _ => ⟨[], x, rfl⟩
  | x :: z :: xs, _ => by
    obtain ⟨ys, y, e⟩ := split_last (z :: xs) (by simp)
    exact ⟨x :: ys, y, by rw [e]; rfl⟩
section
variable {K : PySem.W.Frag} {Rd Rw : Rel}
def headsW (hh : List (List Str)) : List Str := hh.map fun ws => ws.headD ""
theorem last_turns {dp : Nat} {hh : List (List Str)} {lp : List Str} (hpp : ∀ ws ∈ hh ++ [lp], PoolOk ws ∧ 2 ≤ ws.length) (hl : hh.length + 1 = dp) (h3 : dp ≤ 3) {c0 c2 c4 c5 c6 c8 : Cell} (n0 : ∀ m, c0 ≠ .mu m ∨ True) {many : Nat} (h2 : 2 ≤ many) : ∀ (rest done : List Str) (lv : List (List Str)) (c9 c10 : Cell), (∀ w ∈ rest, wordB w = true) → LvOk dp lv → lv.length ≤ many → (2 ≤ lv.length ∨ ∀ w ∈ done, headsW hh ++ [w] ∈ lv) → ∃ (lv' : List (List Str)) (c9' c10' : Cell), LvOk dp lv' ∧ lv'.length ≤ many ∧ (2 ≤ lv'.length ∨ ∀ w ∈ done ++ rest, headsW hh ++ [w] ∈ lv') ∧
    LoopZ K [0] (gName 10) (b__law_leaves_2 K Rd Rw) [10] (rest.map .str) [c0, .fr (.int (dp : Int)), c2, .fr (.lst ((hh ++ [lp]).map poolD)), c4, c5, c6, .own (psD lv), c8, c9, c10, .no] (.nx [c0, .fr (.int (dp : Int)), c2, .fr (.lst ((hh ++ [lp]).map poolD)), c4, c5, c6, .own (psD lv'), c8, c9', c10', .no])
  | [], done, lv, c9, c10, _, hv, hm, hd => ⟨lv, c9, c10, hv, hm, by rw [List.append_nil]; exact hd, .nil⟩
  | w :: rest, done, lv, c9, c10, hw, hv, hm, hd => by
    have gh : GoodW (headsW hh) := fun x hx => by
      obtain ⟨ws, hws, rfl⟩ := List.mem_map.mp hx
      obtain ⟨p1, p2⟩ := hpp ws (List.mem_append_left _ hws)
      cases ws with
      | nil => simp at p2
      | cons y ys => exact p1.w y List.mem_cons_self
    have gw : GoodW (headsW hh ++ [w]) := fun x hx => by
      rcases List.mem_append.mp hx with z | z
      · exact gh x z
      · rw [List.mem_singleton.mp z]; exact hw w List.mem_cons_self
    have gl : (headsW hh ++ [w]).length = dp := by
      unfold headsW
      rw [List.length_append, List.length_map]
      exact hl
    have hn1 : EvN K (tLc (iList K (tSl (rSlL K) (tVar 3) tNoPart (tPart (tUn (rU fun i => .int (-i)) (tC (.int 1)))))) (gName 11) tYes (e__law_leaves_1 K Rd Rw) [11]) [c0, .fr (.int (dp : Int)), c2, .fr (.lst ((hh ++ [lp]).map poolD)), c4, c5, c6, .own (psD lv), c8, c9, .fr (.str w), .no] [c0, .fr (.int (dp : Int)), c2, .fr (.lst ((hh ++ [lp]).map poolD)), c4, c5, c6, .own (psD lv), c8, c9, .fr (.str w), .no] ((headsW hh).map .str) := by
      have hsl : EvN K (tSl (rSlL K) (tVar 3) tNoPart (tPart (tUn (rU fun i => .int (-i)) (tC (.int 1))))) [c0, .fr (.int (dp : Int)), c2, .fr (.lst ((hh ++ [lp]).map poolD)), c4, c5, c6, .own (psD lv), c8, c9, .fr (.str w), .no] [c0, .fr (.int (dp : Int)), c2, .fr (.lst ((hh ++ [lp]).map poolD)), c4, c5, c6, .own (psD lv), c8, c9, .fr (.str w), .no] (hh.map poolD) := by
        have q := en_slZ (K := K) (ev_var (ρ := [c0, .fr (.int (dp : Int)), c2, .fr (.lst ((hh ++ [lp]).map poolD)), c4, c5, c6, .own (psD lv), c8, c9, .fr (.str w), .no]) (i := 3) rfl) poz_none (poz_some (ev_neg (ev_int (i := 1))))
        rw [List.map_append] at q
        have e : cutD (hh.map poolD ++ [lp].map poolD) none (some (-1)) = hh.map poolD := cut_init
        rw [e, ← List.map_append] at q
        exact q
      refine en_lc (A := [11]) (it_list (hsl.ev .refl)) ?_ (by decide) (by rw [List.length_map]; omega)
      unfold headsW
      rw [List.map_map]
      refine comp_mapA (K := K) (ρ := [c0, .fr (.int (dp : Int)), c2, .fr (.lst ((hh ++ [lp]).map poolD)), c4, c5, c6, .own (psD lv), c8, c9, .fr (.str w), .no]) (j := 11) poolD _ rfl hh fun ws hws => ?_
      obtain ⟨p1, p2⟩ := hpp ws (List.mem_append_left _ hws)
      cases ws with
      | nil => simp at p2
      | cons y ys => exact ev_ixL (ds := (y :: ys).map .str) (ev_var (i := 11) rfl) ev_int (at_nat (j := 0) rfl)
    have hn2 := en_cat hn1 .refl (en_lst (ag_cons (ev_var (i := 10) rfl) ag_nil) (by show 1 ≤ 100000; decide)) (by unfold headsW; rw [List.length_map, List.length_map]; show hh.length + 1 ≤ 90000; omega)
    have ec : (headsW hh).map D.str ++ [.str w] = (headsW hh ++ [w]).map .str := by rw [List.map_append]; rfl
    rw [ec] at hn2
    have s1 := ex_set (S := [0]) (i := 9) (ev_join (a := slS) ev_str hn2.rd (join_small gw (by omega))) (by decide)
    have ht : TsZ K (tAnd (tTest (tOp (rIn K true) (tVar 9) (tVar 7))) (tTest (tOp rLtI (tCB (rLenX K) (tCons (tVar 7) tNil)) (tC (.int 2))))) [c0, .fr (.int (dp : Int)), c2, .fr (.lst ((hh ++ [lp]).map poolD)), c4, c5, c6, .own (psD lv), c8, .fr (.str (pathS (headsW hh ++ [w]))), .fr (.str w), .no] [c0, .fr (.int (dp : Int)), c2, .fr (.lst ((hh ++ [lp]).map poolD)), c4, c5, c6, .own (psD lv), c8, .fr (.str (pathS (headsW hh ++ [w]))), .fr (.str w), .no] ((!decide (pathS (headsW hh ++ [w]) ∈ lv.map pathS)) && decide (((psD lv).length : Int) < 2)) :=
      ts_and (ts_test (ev_inL (neg := true) (ev_var (i := 9) rfl) (rd_own (i := 7) rfl))) fun _ => ts_test (ev_lt (ev_lenL (rd_own (i := 7) rfl)) ev_int)
    have mono : ∀ lv' : List (List Str), (∀ x ∈ lv, x ∈ lv') → (headsW hh ++ [w] ∈ lv' ∨ 2 ≤ lv'.length) → lv.length ≤ lv'.length → (2 ≤ lv'.length ∨ ∀ x ∈ done ++ [w], headsW hh ++ [x] ∈ lv') := fun lv' hs hw' hle => by
      rcases hw' with z | z
      · rcases hd with y | y
        · exact .inl (by omega)
        · refine .inr fun x hx => ?_
          rcases List.mem_append.mp hx with a | a
          · exact hs _ (y x a)
          · rw [List.mem_singleton.mp a]; exact z
      · exact .inl z
    by_cases hc : headsW hh ++ [w] ∉ lv ∧ lv.length < 2
    · have hl1 : (lv ++ [headsW hh ++ [w]]).length = lv.length + 1 := by rw [List.length_append]; rfl
      obtain ⟨lv', c9', c10', g1, g2, g3, q⟩ := last_turns hpp hl h3 n0 h2 (c2 := c2) (c4 := c4) (c5 := c5) (c6 := c6) (c8 := c8) rest (done ++ [w]) (lv ++ [headsW hh ++ [w]]) (.fr (.str (pathS (headsW hh ++ [w])))) (.fr (.str w)) (fun x hx => hw x (List.mem_cons_of_mem _ hx)) (hv.snoc gw gl hc.1) (by omega) (mono _ (fun x hx => List.mem_append_left _ hx) (.inl (by simp)) (by omega))
      rw [← psD_snoc] at q
      rw [List.append_assoc] at g3
      refine ⟨lv', c9', c10', g1, g2, g3, .step tg_name (ex_seq s1 (ex_ifT (ts_is ht ?_) (ex_app (i := 7) (ds := psD lv) (ev_var (i := 9) rfl) rfl rfl (by rw [psD_len]; omega)))) q⟩
      rw [decide_eq_false fun z => hc.1 ((path_mem hv gw).mp z), psD_len, decide_eq_true (show (lv.length : Int) < 2 by omega)]
      rfl
    · obtain ⟨lv', c9', c10', g1, g2, g3, q⟩ := last_turns hpp hl h3 n0 h2 (c2 := c2) (c4 := c4) (c5 := c5) (c6 := c6) (c8 := c8) rest (done ++ [w]) lv (.fr (.str (pathS (headsW hh ++ [w])))) (.fr (.str w)) (fun x hx => hw x (List.mem_cons_of_mem _ hx)) hv hm (mono lv (fun _ h => h) (by
        by_cases z : headsW hh ++ [w] ∈ lv
        · exact .inl z
        · exact .inr (by
            by_cases y : lv.length < 2
            · exact absurd ⟨z, y⟩ hc
            · omega)) (Nat.le_refl _))
      rw [List.append_assoc] at g3
      refine ⟨lv', c9', c10', g1, g2, g3, .step tg_name (ex_seq s1 (ex_ifF (ts_is ht ?_) ex_next)) q⟩
      by_cases z : headsW hh ++ [w] ∈ lv
      · rw [decide_eq_true ((path_mem hv gw).mpr z)]; rfl
      · rw [psD_len, decide_eq_false (show ¬ (lv.length : Int) < 2 from fun y => hc ⟨z, by omega⟩), Bool.and_false]
def CLeaves (R : Rel) : Prop := ∀ (b : List D) (dp many : Nat), GoodBox b → 1 ≤ dp → dp ≤ 3 → 2 ≤ many → many ≤ 8 → ∃ (lv : List (List Str)) (b' : List D), GoodL lv dp ∧ lv.length ≤ many ∧ GoodBox b' ∧ R (.own b :: [.int (dp : Int), .int (many : Int)].map .fr) (.fr (lvD lv)) (.own b' :: [.int (dp : Int), .int (many : Int)].map .fr)
theorem rel_leaves (hd : Spec Rd PreDraw PostDraw) (hw : CWord Rw) : CLeaves (RelOf K [0] (t__law_leaves K Rd Rw) 12 3) := fun b dp many hb h1 h3 h2 h8 => by
  obtain ⟨pp, b1, c4, c5, c6, hb1, hpp, lpp, q1⟩ := pool_levels (K := K) (Rd := Rd) hw (dp := dp) (many := many) h2 h8 (c7 := .no) (c8 := .no) (c9 := .no) (c10 := .no) (c11 := .no) dp 0 [] b .no .no .no hb (fun _ h => (by cases h)) rfl (by omega)
  rw [Nat.zero_add] at lpp
  obtain ⟨lv1, b2, c8, c9, hb2, v1, l1, q2⟩ := path_turns (K := K) (Rw := Rw) hd (dp := dp) (many := many) h8 hpp lpp h3 (c4 := c4) (c5 := c5) (c6 := c6) (c10 := .no) (2 * many) 0 [] b1 .no .no hb1 ⟨.nil, fun _ h => (by cases h)⟩ (Nat.zero_le _)
  obtain ⟨hh, lp, e⟩ := split_last pp (by omega)
  subst e
  rw [List.length_append] at lpp
  obtain ⟨p1, p2⟩ := hpp lp (by simp)
  obtain ⟨lv, c9', c10', v2, l2, d2, q3⟩ := last_turns (K := K) (Rd := Rd) (Rw := Rw) hpp lpp h3 (c0 := .own b2) (c2 := .fr (.int (many : Int))) (c4 := c4) (c5 := c5) (c6 := c6) (c8 := c8) (fun _ => .inr trivial) h2 lp [] lv1 c9 .no p1.w v1 l1 (.inr fun _ h => (by cases h))
  have two : 2 ≤ lv.length := by
    rcases d2 with z | z
    · exact z
    · have nd : (lp.map fun w => headsW hh ++ [w]).Nodup := List.pairwise_map.mpr (p1.nd.imp fun {x y} hxy e => hxy (by
        have := List.append_cancel_left e
        injection this))
      have := List.Nodup.length_le_of_subset nd fun x hx => by
        obtain ⟨w, hw', rfl⟩ := List.mem_map.mp hx
        exact z w hw'
      rw [List.length_map] at this
      omega
  have good := good_sort two (by omega) h1 h3 (fun ws h => (v2.g ws h).2) (fun ws h => (v2.g ws h).1) v2.nd
  have et1 : ((dp : Int)).toNat = dp := Int.toNat_natCast dp
  have et2 : ((2 : Int) * (many : Int)).toNat = 2 * many := by omega
  rw [← et1] at q1
  rw [← et2] at q2
  have elast : atI ((hh ++ [lp]).map poolD) (-1) = some (poolD lp) := by rw [List.map_append]; exact atI_last _ _
  have e9 : ((sortW lv).map pathS).map D.str = (sortW lv).map fun ws => D.str (pathS ws) := by rw [List.map_map]; rfl
  have key : ExZ K [0] (t__law_leaves K Rd Rw) [.own b, .fr (.int (dp : Int)), .fr (.int (many : Int)), .no, .no, .no, .no, .no, .no, .no, .no, .no] (.rt [.own b2, .fr (.int (dp : Int)), .fr (.int (many : Int)), .fr (.lst ((hh ++ [lp]).map poolD)), c4, c5, c6, .own (psD lv), c8, c9', c10', .no] (.fr (lvD (sortW lv)))) :=
    ex_seq (ex_setN (i := 3) (en_lst ag_nil (by decide)) .refl (by decide)) (ex_seq (ex_for (it_range1 (n := (dp : Int)) (ag_cons (ev_i1 (i := 1) rfl) ag_nil) ⟨by omega, by omega⟩) q1 (by decide)) (ex_freeze (i := 3) (ds := (hh ++ [lp]).map poolD) rfl (ex_seq (ex_setN (i := 7) (en_lst ag_nil (by decide)) .refl (by decide))
      (ex_seq (ex_for (it_range1 (n := (2 : Int) * (many : Int)) (ag_cons (ev_mul ev_int (ev_i1 (i := 2) rfl) (.inl ⟨by decide, by decide⟩)) ag_nil) ⟨by omega, by omega⟩) q2 (by decide))
      (ex_seq (ex_for (it_list (ds := lp.map .str) (ev_ixL (ds := (hh ++ [lp]).map poolD) (ev_var (i := 3) rfl) (ev_neg (ev_int (i := 1))) elast)) q3 (by decide)) (ex_ret (ev_is (ev_sorted (lv := lv) (rd_own (i := 7) rfl) (by omega)) (by rw [e9]))))))))
  refine ⟨sortW lv, b2, good, by rw [(sortW_perm lv).length_eq]; exact l2, hb2, rfl, _, .inl key, fin_box (ds := [.int (dp : Int), .int (many : Int)]) (by decide) rfl⟩
/-! ### _law_level, _law_a_grouping -/
def CLevel (R : Rel) : Prop := ∀ (ws : List Str), GoodW ws → 1 ≤ ws.length → ws.length ≤ 50 → R ([.str (pathS ws)].map .fr) (.fr (.int (ws.length : Int))) ([.str (pathS ws)].map .fr)
theorem rel_level : CLevel (RelOf K [] (t__law_level K) 1 1) := fun ws hg h1 h50 => by
  have hp := path_len hg
  have pos : 1 ≤ (pathS ws).length := by
    cases ws with
    | nil => simp at h1
    | cons w ws => exact path_pos hg
  have ne : pathS ws ≠ "" := fun e => by rw [e] at pos; have : ("" : Str).length = 0 := rfl; omega
  have ew : Txt.split (pathS ws) slS = ws := by
    have q := words_path hg
    unfold wordsS at q
    rw [if_pos (by simp; omega)] at q
    exact q
  refine rel_rt (ds := [.str (pathS ws)]) ⟨_, ex_seq (ex_ifF (ts_is (ts_test (ev_eqS (ev_var (i := 0) rfl) ev_str)) (decide_eq_false ne)) ex_next) (ex_ret (ev_is (ev_lenL (EvN.rd (en_split (b := slS) (ev_var (i := 0) rfl) ev_str (by decide +kernel) (by omega)))) ?_))⟩
  rw [ew, List.length_map]
end
end Z

set_option Elab.async false
set_option linter.all false
set_option maxRecDepth 100000
set_option maxHeartbeats 2000000
/-! LawH: _law_a_grouping, _law_wide. -/
namespace Z
open PySem PySem.Spec PyProof.Rows L2
open Evl (Ex Ex.refl Ex.trans Ex.new ex_rd ex_l ex_t sq_of st_of fresh_back sz_of sz_lt)
section
variable {K : PySem.W.Frag} {ρ ρ1 ρ2 : Rho} {te : TE} {d : D} {ds : List D}
/-- a call whose first argument is a list made for it, the others frozen -/
theorem ev_callBR {R : Rel} {X : XK} {b1 b2 : List D} {tr : TA} (h : EvN K te ρ ρ1 b1) (ho : OwnIn ρ1 ρ) (hr : AgZ K tr ρ1 ρ2 ds) (hR : R (.own b1 :: ds.map .fr) (.fr d) (.own b2 :: ds.map .fr)) (ho2 : OwnIn ρ2 ρ1) : EvZ K (tCall (SpZ K R) [] X (tCons te tr)) ρ ρ2 d := fun M G H σ S Q q =>
  h M G H σ S _ fun p vs G1 H1 g1 s1 hp gp hp1 dz => by
    have nw := EvN.noOwn (vs := vs) S s1 hp ho
    have s1' : Sim K (fun a => M a ∧ a ≠ p) G1 H1 σ ρ1 := s1.chMo fun r m i e1 e2 => by
      obtain ⟨r', o, e3, m', _⟩ := s1.mu e1
      rw [e2] at e3
      cases e3
      exact ⟨m', fun z => by subst z; exact nw i m e1 e2⟩
    refine hr _ G1 H1 σ s1' _ fun ws G2 H2 g2 s2 dw => ?_
    have hp2 := g2.k p _ (fun z => z.2 rfl) hp1
    have gp2 := g2.n p (fun z => z.2 rfl) (by rw [hp1]; simp) gp
    show SpZ K R ((V.ref p :: ws) ++ []) H2 Q X
    rw [List.append_nil]
    have sa := sim_args (K := K) dw s2.sub
    have s0 : Sim K (fun a => a = p) G2 H2 ((V.ref p :: ws).map some) (.own b1 :: ds.map .fr) := by
      refine ⟨by rw [List.map_cons, List.length_cons, List.length_cons, sa.len], s2.sub, fun {j d} h => ?_, fun {j d} h => ?_, fun {j k d e q} ne h2 h3 h4 h5 => ?_⟩
      · cases j with
        | zero => exact absurd (show some (Cell.own b1) = some (Cell.fr d) from h) (by simp)
        | succ j => exact sa.fr (i := j) h
      · cases j with
        | zero =>
          have z : some (Cell.own b1) = some (Cell.mu d) := h
          cases z
          exact ⟨p, .lst vs, rfl, rfl, gp2, hp2, dz.mono g2.g⟩
        | succ j =>
          obtain ⟨_, _, _, z, _⟩ := sa.mu (i := j) h
          exact z.elim
      · cases j with
        | zero =>
          cases k with
          | zero => exact ne rfl
          | succ k =>
            obtain ⟨_, _, _, z, _⟩ := sa.mu (i := k) h3
            exact z.elim
        | succ j =>
          obtain ⟨_, _, _, z, _⟩ := sa.mu (i := j) h2
          exact z.elim
    refine ⟨fun a => a = p, G2, _, .fr d, _, s0, hR, fun v G' H' g s r => ?_⟩
    have g12 : Grow M G H G2 H2 := g1.trans (g2.wk fun a _ z => z.1)
    have S2 : Sim K M G2 H2 σ ρ2 := s2.chM fun a _ z => z.1
    refine q v G' H' ⟨g12.g.trans g.g, fun a o n e => g.k a o (fun z => by subst z; rw [hp] at e; cases e) (g12.k a o n e), fun a n e z => g.n a (fun y => by subst y; exact e hp) ?_ (g12.n a n e z), fun a z => g12.d a (g.d a z)⟩ (S2.grow s.sub g.g fun q' es i e1 e2 => ?_) r
    · intro e3
      exact e (g12.d a e3)
    · obtain ⟨q2, us, e', m, gq, hq, dq⟩ := s2.mu e1
      rw [e2] at e'
      cases e'
      have ne : q' ≠ p := m.2
      exact ⟨(g.k q' _ ne hq).trans hq.symm, g.n q' ne (by rw [hq]; simp) gq⟩
end
section
variable {K : PySem.W.Frag} {Rd Rv : Rel}
end
end Z

set_option Elab.async false
set_option linter.all false
set_option maxRecDepth 100000
set_option maxHeartbeats 2000000
/-! LawI: _law_wide. -/
namespace Z
open PySem PySem.Spec PyProof.Rows L2
open Evl (Ex Ex.refl Ex.trans Ex.new ex_rd ex_l ex_t sq_of st_of fresh_back sz_of sz_lt)
theorem cellsN_snoc (d : Dm) : ∀ ds : List Dm, cellsN (ds ++ [d]) = cellsN ds * d.leaves.length
  | [] => by
    show d.leaves.length * 1 = 1 * d.leaves.length
    omega
  | x :: ds => by
    show x.leaves.length * cellsN (ds ++ [d]) = x.leaves.length * cellsN ds * d.leaves.length
    rw [cellsN_snoc d ds, Nat.mul_assoc]
structure WideOk (ds : List Dm) (m c C : Nat) : Prop where
  l : ds.length ≤ m
  names : (ds.map Dm.name).Nodup
  good : ∀ d ∈ ds, ∃ n, d.Good n
  c1 : 1 ≤ c
  cells : cellsN ds * c ≤ C
  first : 1 ≤ ds.length ∨ (m = 0 ∧ 2 ≤ c)
section
variable {K : PySem.W.Frag} {Rb Rd Rl Rp Rw : Rel}
def CWide (R : Rel) : Prop := ∀ (ns : List Int) (f C : Nat), f ≤ 1000 → 2 ≤ C → C ≤ 48 → ∃ ds : List Dm, GoodDs ds ∧ cellsN ds ≤ C ∧ R ([.lst (ns.map .int), .int (f : Int), .int (C : Int)].map .fr) (.fr (dimsD ds)) ([.lst (ns.map .int), .int (f : Int), .int (C : Int)].map .fr)
theorem wide_loop (hb : Spec Rb PreBox PostBox) (hd : Spec Rd PreDraw PostDraw) (hl : CLeaves Rl) (hp : CPlain Rp) (hw : CWord Rw) {ns : List Int} {f C : Nat} (hf : f ≤ 1000) (hC : C ≤ 48) {c3 : Cell} : ∀ (n m : Nat) (ds : List Dm) (c : Nat) (c6 c7 c8 c9 c10 c11 c12 : Cell), m + n ≤ 3 → WideOk ds m c C → (m = 0 → 2 ≤ c) → ∃ (ds' : List Dm) (c' : Nat) (c6' c7' c8' c9' c10' c11' c12' : Cell), WideOk ds' (m + n) c' C ∧
    LoopZ K [] (gName 6) (b__law_wide_1 K Rb Rd Rl Rp Rw) [6] (rangeD (m : Int) n) [.fr (.lst (ns.map .int)), .fr (.int (f : Int)), .fr (.int (c : Int)), c3, .own (ds.map Dm.d), .own ((ds.map Dm.name).map .str), c6, c7, c8, c9, c10, c11, c12]
      (.nx [.fr (.lst (ns.map .int)), .fr (.int (f : Int)), .fr (.int (c' : Int)), c3, .own (ds'.map Dm.d), .own ((ds'.map Dm.name).map .str), c6', c7', c8', c9', c10', c11', c12'])
  | 0, m, ds, c, c6, c7, c8, c9, c10, c11, c12, hm, h, _ => ⟨ds, c, c6, c7, c8, c9, c10, c11, c12, h, .nil⟩
  | n + 1, m, ds, c, c6, c7, c8, c9, c10, c11, c12, hm, h, h0 => by
    rw [rangeD_cons]
    obtain ⟨r, cs', hR, rfl, b, hbx, rfl⟩ := hb _ ⟨ns, f + 1 + m, rfl, by omega⟩
    have ef : ((f : Int) + 1 + (m : Int)) = ((f + 1 + m : Nat) : Int) := by omega
    have s1 : ExZ K [] (tAsg (tCall (SpZ K Rb) [] E0 (tCons (tVar 0) (tCons (tOp rAddI (tOp rAddI (tVar 1) (tC (.int 1))) (tVar 6)) tNil))) (gName 7)) [.fr (.lst (ns.map .int)), .fr (.int (f : Int)), .fr (.int (c : Int)), c3, .own (ds.map Dm.d), .own ((ds.map Dm.name).map .str), .fr (.int (m : Int)), c7, c8, c9, c10, c11, c12] (.nx [.fr (.lst (ns.map .int)), .fr (.int (f : Int)), .fr (.int (c : Int)), c3, .own (ds.map Dm.d), .own ((ds.map Dm.name).map .str), .fr (.int (m : Int)), .own b, c8, c9, c10, c11, c12]) :=
      ex_setN (i := 7) (en_callF (ds := [.lst (ns.map .int), .int ((f + 1 + m : Nat) : Int)]) (ag_cons (ev_var (i := 0) rfl) (ag_cons (ev_is (ev_add (ev_add (ev_i1 (i := 1) rfl) ev_int) (ev_i1 (i := 6) rfl)) (congrArg D.int ef)) ag_nil)) hR) .refl (by decide)
    have ht := ts_test (ev_ge (K := K) (ev_i1 (ρ := [.fr (.lst (ns.map .int)), .fr (.int (f : Int)), .fr (.int (c : Int)), c3, .own (ds.map Dm.d), .own ((ds.map Dm.name).map .str), .fr (.int (m : Int)), .own b, c8, c9, c10, c11, c12]) (i := 2) (n := (c : Int)) rfl) (ev_int (i := 2)))
    by_cases hc : 2 ≤ c
    · -- depth
      obtain ⟨v1, b1, a1, a2, hb1, he1⟩ := ev_draw (K := K) hd (i := 7) (ρ := [.fr (.lst (ns.map .int)), .fr (.int (f : Int)), .fr (.int (c : Int)), c3, .own (ds.map Dm.d), .own ((ds.map Dm.name).map .str), .fr (.int (m : Int)), .own b, c8, c9, c10, c11, c12]) rfl (ev_int (i := 3)) rfl hbx (by decide)
      obtain ⟨d1, rfl⟩ := Int.eq_ofNat_of_zero_le a1
      have e1 : (1 : Int) + (d1 : Int) = ((1 + d1 : Nat) : Int) := by omega
      have s2 := ex_set (S := []) (i := 8) (ev_is (ev_add (ev_int (i := 1)) he1) (congrArg D.int e1)) (by decide)
      -- many
      obtain ⟨v2, b2, a3, a4, hb2, he2⟩ := ev_draw (K := K) hd (i := 7) (ρ := [.fr (.lst (ns.map .int)), .fr (.int (f : Int)), .fr (.int (c : Int)), c3, .own (ds.map Dm.d), .own ((ds.map Dm.name).map .str), .fr (.int (m : Int)), .own b1, .fr (.int ((1 + d1 : Nat) : Int)), c9, c10, c11, c12]) rfl (ev_int (i := 7)) rfl hb1 (by decide)
      obtain ⟨d2, rfl⟩ := Int.eq_ofNat_of_zero_le a3
      have e2 : min ((2 : Int) + (d2 : Int)) (c : Int) = ((min (2 + d2) c : Nat) : Int) := by omega
      have s3 := ex_set (S := []) (i := 9) (ev_is (ev_min2 (ev_add (ev_int (i := 2)) he2) (ev_i1 (i := 2) (n := (c : Int)) rfl)) (congrArg D.int e2)) (by decide)
      -- plain
      obtain ⟨v3, b3, a5, a6, hb3, he3⟩ := ev_draw (K := K) hd (i := 7) (ρ := [.fr (.lst (ns.map .int)), .fr (.int (f : Int)), .fr (.int (c : Int)), c3, .own (ds.map Dm.d), .own ((ds.map Dm.name).map .str), .fr (.int (m : Int)), .own b2, .fr (.int ((1 + d1 : Nat) : Int)), .fr (.int ((min (2 + d2) c : Nat) : Int)), c10, c11, c12]) rfl (ev_int (i := 3)) rfl hb2 (by decide)
      have s4 := ex_set (S := []) (i := 10) (ev_eqI he3 (ev_int (i := 0))) (by decide)
      -- leaves
      have s5 : ∃ (lv : List (List Str)) (b4 : List D), GoodL lv (1 + d1) ∧ lv.length ≤ min (2 + d2) c ∧ GoodBox b4 ∧ ExZ K [] (tAsg (tIf (tTruth K (tVar 10)) (tCall (SpZ K Rp) [] E0 (tCons (tVar 8) (tCons (tVar 9) tNil))) (tCall (SpZ K Rl) [] E0 (tCons (tVar 7) (tCons (tVar 8) (tCons (tVar 9) tNil))))) (gName 11)) [.fr (.lst (ns.map .int)), .fr (.int (f : Int)), .fr (.int (c : Int)), c3, .own (ds.map Dm.d), .own ((ds.map Dm.name).map .str), .fr (.int (m : Int)), .own b3, .fr (.int ((1 + d1 : Nat) : Int)), .fr (.int ((min (2 + d2) c : Nat) : Int)), .fr (.bl (decide (v3 = 0))), c11, c12]
          (.nx [.fr (.lst (ns.map .int)), .fr (.int (f : Int)), .fr (.int (c : Int)), c3, .own (ds.map Dm.d), .own ((ds.map Dm.name).map .str), .fr (.int (m : Int)), .own b4, .fr (.int ((1 + d1 : Nat) : Int)), .fr (.int ((min (2 + d2) c : Nat) : Int)), .fr (.bl (decide (v3 = 0))), .fr (lvD lv), c12]) := by
        by_cases hv : decide (v3 = 0) = true
        · have pl : (plainL (1 + d1) (min (2 + d2) c)).length = min (2 + d2) c := by unfold plainL; rw [List.length_map, List.length_range]
          refine ⟨plainL (1 + d1) (min (2 + d2) c), b3, plain_good (by omega) (by omega) (by omega) (by omega), by rw [pl]; exact Nat.le_refl _, hb3, ?_⟩
          refine ex_set (i := 11) (ev_ifT (ts_is (ts_truB (ev_var (i := 10) rfl)) hv) (ev_callF (ds := [.int ((1 + d1 : Nat) : Int), .int ((min (2 + d2) c : Nat) : Int)]) (ag_cons (ev_var (i := 8) rfl) (ag_cons (ev_var (i := 9) rfl) ag_nil)) (hp (1 + d1) (min (2 + d2) c) (by omega) (by omega) (by omega) (by omega)))) (by decide)
        · have hv' : decide (v3 = 0) = false := by cases h : decide (v3 = 0) with | true => exact absurd h hv | false => rfl
          obtain ⟨lv, b4, g1, g2, g3, hR⟩ := hl b3 (1 + d1) (min (2 + d2) c) hb3 (by omega) (by omega) (by omega) (by omega)
          refine ⟨lv, b4, g1, g2, g3, ?_⟩
          refine ex_set (i := 11) (ev_ifF (ts_is (ts_truB (ev_var (i := 10) rfl)) hv') (ev_callB (i := 7) (ds := [.int ((1 + d1 : Nat) : Int), .int ((min (2 + d2) c : Nat) : Int)]) rfl (ag_cons (ev_var (i := 8) rfl) (ag_cons (ev_var (i := 9) rfl) ag_nil)) rfl hR)) (by decide)
      obtain ⟨lv, b4, gl, ll, hb4, s5⟩ := s5
      have few := gl.few
      have ec : (c : Int) / ((lv.map fun ws => D.str (pathS ws)).length : Int) = ((c / lv.length : Nat) : Int) := by rw [List.length_map]; exact (Int.natCast_ediv c lv.length).symm
      have s6 := ex_set (S := []) (K := K) (ρ := [.fr (.lst (ns.map .int)), .fr (.int (f : Int)), .fr (.int (c : Int)), c3, .own (ds.map Dm.d), .own ((ds.map Dm.name).map .str), .fr (.int (m : Int)), .own b4, .fr (.int ((1 + d1 : Nat) : Int)), .fr (.int ((min (2 + d2) c : Nat) : Int)), .fr (.bl (decide (v3 = 0))), .fr (lvD lv), c12]) (i := 2) (ev_is (ev_fdiv (ev_i1 (i := 2) (n := (c : Int)) rfl) (ev_lenT (ds := lv.map fun ws => D.str (pathS ws)) (ev_var (i := 11) rfl).rd) ⟨by rw [List.length_map]; omega, by rw [List.length_map]; have := gl.most; omega⟩) (congrArg D.int ec)) (by decide)
      -- the name
      have lm : (ds.map Dm.name).length ≤ 20 := by rw [List.length_map]; have := h.l; omega
      obtain ⟨w, b5, ⟨hb5, w1, w2⟩, hRw⟩ := hw b4 (ds.map Dm.name) hb4 lm
      have s7 : ExZ K [] (tAsg (tCall (SpZ K Rw) [] E0 (tCons (tVar 7) (tCons (tVar 5) tNil))) (gName 12)) [.fr (.lst (ns.map .int)), .fr (.int (f : Int)), .fr (.int ((c / lv.length : Nat) : Int)), c3, .own (ds.map Dm.d), .own ((ds.map Dm.name).map .str), .fr (.int (m : Int)), .own b4, .fr (.int ((1 + d1 : Nat) : Int)), .fr (.int ((min (2 + d2) c : Nat) : Int)), .fr (.bl (decide (v3 = 0))), .fr (lvD lv), c12]
          (.nx [.fr (.lst (ns.map .int)), .fr (.int (f : Int)), .fr (.int ((c / lv.length : Nat) : Int)), c3, .own (ds.map Dm.d), .own ((ds.map Dm.name).map .str), .fr (.int (m : Int)), .own b5, .fr (.int ((1 + d1 : Nat) : Int)), .fr (.int ((min (2 + d2) c : Nat) : Int)), .fr (.bl (decide (v3 = 0))), .fr (lvD lv), .fr (.str w)]) :=
        ex_set (i := 12) (ev_callMT (i := 7) (j := 5) (by decide) rfl rfl hRw) (by decide)
      have s8 : ExZ K [] (tDrop (tBM K "list" rAppend (tVar 5) (tCons (tVar 12) tNil))) [.fr (.lst (ns.map .int)), .fr (.int (f : Int)), .fr (.int ((c / lv.length : Nat) : Int)), c3, .own (ds.map Dm.d), .own ((ds.map Dm.name).map .str), .fr (.int (m : Int)), .own b5, .fr (.int ((1 + d1 : Nat) : Int)), .fr (.int ((min (2 + d2) c : Nat) : Int)), .fr (.bl (decide (v3 = 0))), .fr (lvD lv), .fr (.str w)]
          (.nx [.fr (.lst (ns.map .int)), .fr (.int (f : Int)), .fr (.int ((c / lv.length : Nat) : Int)), c3, .own (ds.map Dm.d), .own ((ds.map Dm.name).map .str ++ [.str w]), .fr (.int (m : Int)), .own b5, .fr (.int ((1 + d1 : Nat) : Int)), .fr (.int ((min (2 + d2) c : Nat) : Int)), .fr (.bl (decide (v3 = 0))), .fr (lvD lv), .fr (.str w)]) :=
        ex_app (i := 5) (ev_var (i := 12) rfl) rfl rfl (by rw [List.length_map]; omega)
      have s9 : ExZ K [] (tDrop (tBM K "list" rAppend (tVar 4) (tCons (tTup (tCons (tVar 12) (tCons (tVar 11) tNil))) tNil))) [.fr (.lst (ns.map .int)), .fr (.int (f : Int)), .fr (.int ((c / lv.length : Nat) : Int)), c3, .own (ds.map Dm.d), .own ((ds.map Dm.name).map .str ++ [.str w]), .fr (.int (m : Int)), .own b5, .fr (.int ((1 + d1 : Nat) : Int)), .fr (.int ((min (2 + d2) c : Nat) : Int)), .fr (.bl (decide (v3 = 0))), .fr (lvD lv), .fr (.str w)]
          (.nx [.fr (.lst (ns.map .int)), .fr (.int (f : Int)), .fr (.int ((c / lv.length : Nat) : Int)), c3, .own (ds.map Dm.d ++ [.tup [.str w, lvD lv]]), .own ((ds.map Dm.name).map .str ++ [.str w]), .fr (.int (m : Int)), .own b5, .fr (.int ((1 + d1 : Nat) : Int)), .fr (.int ((min (2 + d2) c : Nat) : Int)), .fr (.bl (decide (v3 = 0))), .fr (lvD lv), .fr (.str w)]) :=
        ex_app (i := 4) (ev_tup (ag_cons (ev_var (i := 12) rfl) (ag_cons (ev_var (i := 11) rfl) ag_nil)) (by show 2 ≤ 100000; decide)) rfl rfl (by rw [List.length_map]; have := h.l; omega)
      have enew : ds.map Dm.d ++ [.tup [.str w, lvD lv]] = (ds ++ [Dm.mk w lv]).map Dm.d := by
        rw [List.map_append]
        congr 1
        show [D.tup [.str w, lvD lv]] = [Dm.d ⟨w, lv⟩]
        unfold Dm.d Dm.tupD Dm.paths
        rw [List.map_map]
        rfl
      have enew2 : (ds.map Dm.name).map D.str ++ [.str w] = ((ds ++ [Dm.mk w lv]).map Dm.name).map .str := by
        rw [List.map_append, List.map_append]
        rfl
      rw [enew2] at s8
      rw [enew, enew2] at s9
      have hdiv : 1 ≤ c / lv.length := (Nat.le_div_iff_mul_le (by omega)).mpr (by omega)
      have hw' : WideOk (ds ++ [Dm.mk w lv]) (m + 1) (c / lv.length) C := by
        refine ⟨by rw [List.length_append]; have := h.l; show ds.length + 1 ≤ m + 1; omega, ?_, fun x hx => ?_, hdiv, ?_, .inl (by rw [List.length_append]; show 1 ≤ ds.length + 1; omega)⟩
        · rw [List.map_append, List.nodup_append]
          refine ⟨h.names, by simp, fun a ha y hy e => ?_⟩
          rw [show [Dm.mk w lv].map Dm.name = [w] from rfl, List.mem_singleton] at hy
          subst hy
          subst e
          exact w2 ha
        · rcases List.mem_append.mp hx with z | z
          · exact h.good x z
          · rw [List.mem_singleton.mp z]; exact ⟨_, gl.dm w1⟩
        · rw [cellsN_snoc]
          show cellsN ds * lv.length * (c / lv.length) ≤ C
          rw [Nat.mul_assoc]
          exact Nat.le_trans (Nat.mul_le_mul_left _ (Nat.mul_div_le c lv.length)) h.cells
      obtain ⟨ds', c', c6', c7', c8', c9', c10', c11', c12', k1, q⟩ := wide_loop hb hd hl hp hw (ns := ns) hf hC (c3 := c3) n (m + 1) (ds ++ [Dm.mk w lv]) (c / lv.length) (.fr (.int (m : Int))) (.own b5) (.fr (.int ((1 + d1 : Nat) : Int))) (.fr (.int ((min (2 + d2) c : Nat) : Int))) (.fr (.bl (decide (v3 = 0)))) (.fr (lvD lv)) (.fr (.str w)) (by omega) hw' (fun z => by omega)
      refine ⟨ds', c', c6', c7', c8', c9', c10', c11', c12', by rw [show m + (n + 1) = m + 1 + n by omega]; exact k1, .step tg_name (ex_seq s1 (ex_ifT (ts_is ht (decide_eq_true (by omega))) (ex_seq s2 (ex_seq s3 (ex_seq s4 (ex_seq s5 (ex_seq s6 (ex_seq s7 (ex_seq s8 s9))))))))) q⟩
    · have hf1 : 1 ≤ ds.length := by
        rcases h.first with z | z
        · exact z
        · omega
      obtain ⟨ds', c', c6', c7', c8', c9', c10', c11', c12', k1, q⟩ := wide_loop hb hd hl hp hw (ns := ns) hf hC (c3 := c3) n (m + 1) ds c (.fr (.int (m : Int))) (.own b) c8 c9 c10 c11 c12 (by omega) ⟨by have := h.l; omega, h.names, h.good, h.c1, h.cells, .inl hf1⟩ (fun z => by omega)
      exact ⟨ds', c', c6', c7', c8', c9', c10', c11', c12', by rw [show m + (n + 1) = m + 1 + n by omega]; exact k1, .step tg_name (ex_seq s1 (ex_ifF (ts_is ht (decide_eq_false (by omega))) ex_next)) q⟩
theorem rel_wide (hb : Spec Rb PreBox PostBox) (hd : Spec Rd PreDraw PostDraw) (hl : CLeaves Rl) (hp : CPlain Rp) (hw : CWord Rw) : CWide (RelOf K [] (t__law_wide K Rb Rd Rl Rp Rw) 13 3) := fun ns f C hf h2 hC => by
  obtain ⟨r, cs', hR, rfl, b, hbx, rfl⟩ := hb _ ⟨ns, f, rfl, by omega⟩
  have s1 : ExZ K [] (tAsg (tCall (SpZ K Rb) [] E0 (tCons (tVar 0) (tCons (tVar 1) tNil))) (gName 3)) [.fr (.lst (ns.map .int)), .fr (.int (f : Int)), .fr (.int (C : Int)), .no, .no, .no, .no, .no, .no, .no, .no, .no, .no] (.nx [.fr (.lst (ns.map .int)), .fr (.int (f : Int)), .fr (.int (C : Int)), .own b, .no, .no, .no, .no, .no, .no, .no, .no, .no]) :=
    ex_setN (i := 3) (en_callF (ds := [.lst (ns.map .int), .int (f : Int)]) (ag_cons (ev_var (i := 0) rfl) (ag_cons (ev_var (i := 1) rfl) ag_nil)) hR) .refl (by decide)
  obtain ⟨v, b1, a1, a2, hb1, he⟩ := ev_draw (K := K) hd (i := 3) (ρ := [.fr (.lst (ns.map .int)), .fr (.int (f : Int)), .fr (.int (C : Int)), .own b, .own [], .own [], .no, .no, .no, .no, .no, .no, .no]) rfl (ev_int (i := 3)) rfl hbx (by decide)
  obtain ⟨n, rfl⟩ := Int.eq_ofNat_of_zero_le a1
  obtain ⟨ds, c', c6', c7', c8', c9', c10', c11', c12', k, q⟩ := wide_loop (K := K) hb hd hl hp hw (ns := ns) hf hC (c3 := .own b1) (1 + n) 0 [] C .no .no .no .no .no .no .no (by omega) ⟨Nat.le_refl _, .nil, fun _ h => (by cases h), by omega, by show 1 * C ≤ C; omega, .inr ⟨rfl, h2⟩⟩ (fun _ => h2)
  have et : ((1 : Int) + (n : Int)).toNat = 1 + n := by omega
  rw [← et] at q
  have cl : cellsN ds ≤ C := Nat.le_trans (Nat.le_mul_of_pos_right _ k.c1) k.cells
  refine ⟨ds, ⟨?_, by have := k.l; omega, k.names, k.good, by omega⟩, cl, rel_rt (ds := [.lst (ns.map .int), .int (f : Int), .int (C : Int)]) ⟨_, ex_seq s1 (ex_seq (ex_setN (i := 4) (en_lst ag_nil (by decide)) .refl (by decide)) (ex_seq (ex_setN (i := 5) (en_lst ag_nil (by decide)) .refl (by decide)) (ex_seq (ex_for (it_range1 (ag_cons (ev_add (ev_int (i := 1)) he) ag_nil) ⟨by omega, by omega⟩) q (by decide)) (ex_ret (ev_tupO (i := 4) (ds := ds.map Dm.d) rfl)))))⟩⟩
  rcases k.first with z | z
  · exact z
  · omega
end
end Z

set_option Elab.async false
set_option linter.all false
set_option maxRecDepth 100000
set_option maxHeartbeats 2000000
/-! SpJ: cells by their leaves, and what the numbers of groups say of them. -/
namespace Z
open PySem PySem.Spec PyProof.Rows L2
abbrev CellW := List (List Str)
def cellsR : List Dm → List CellW
  | [] => [[]]
  | d :: ds => d.leaves.flatMap fun ws => (cellsR ds).map fun c => ws :: c
def gN : List Dm → List Nat → Nat → CellW → Nat
  | d :: ds, l :: g, n, ws :: c => gN ds g (n * (memL d.leaves l).length + posW (memW d.leaves l) (ws.take l)) c
  | _, _, n, _ => n
/-- the number of the group of a cell -/
def gC (ds : List Dm) (g : List Nat) (c : CellW) : Nat := gN ds g 0 c
theorem cellsR_len : ∀ ds : List Dm, (cellsR ds).length = cellsN ds
  | [] => rfl
  | d :: ds => by
    have ih := cellsR_len ds
    show (d.leaves.flatMap fun ws => (cellsR ds).map fun c => ws :: c).length = d.leaves.length * cellsN ds
    rw [← ih]
    induction d.leaves with
    | nil => rw [List.length_nil, Nat.zero_mul]; rfl
    | cons w lv ih2 => rw [List.flatMap_cons, List.length_append, List.length_map, ih2, List.length_cons, Nat.succ_mul, Nat.add_comm]
end Z

set_option Elab.async false
set_option linter.all false
set_option maxRecDepth 100000
set_option maxHeartbeats 2000000
/-! Law05: the law k05. -/
namespace Z
open PySem PySem.Spec PyProof.Rows L2
open Evl (Ex Ex.refl Ex.trans Ex.new ex_rd ex_l ex_t sq_of st_of fresh_back sz_of sz_lt)
namespace K05
section
variable {K : PySem.W.Frag} {ρ ρ1 : Rho} {te : TE} {Rsp Rag Rb Rs Rwd Rco Rgn Rj Rm : Rel} {C : Addr}
structure Quad (F S J M : List Nat) (L : Nat) : Prop where
  f : F.length = L
  s : S.length = L
  j : J.length = L
  m : M.length = L
  l : L ≤ 1000
  qJ : ∀ c o, c < L → o < L → (J[c]? = J[o]? ↔ F[c]? = F[o]? ∧ S[c]? = S[o]?)
  qM : ∀ c o, c < L → o < L → (M[c]? = M[o]? ↔ ∃ k, k < L ∧ F[k]? = F[c]? ∧ S[k]? = S[o]?)
end
end K05
end Z

set_option Elab.async false
set_option linter.all false
set_option maxRecDepth 100000
set_option maxHeartbeats 2000000
/-! ZRev: list(reversed(a list)); a loop over a reversed tuple. -/
namespace Z
open PySem PySem.Spec PyProof.Rows L2
open Evl (Ex Ex.refl Ex.trans Ex.new ex_rd ex_l ex_t sq_of st_of fresh_back sz_of sz_lt)
section
variable {prog : Program} {w : World} {A : Around} {E : Value → Shared → Prop} {s : Shared} {it l S : Addr} {items : Array Value}
end
section
variable {X : Cx}
end
/-! ### over cells -/
section
variable {K : PySem.W.Frag} {S : List Nat} {ρ ρ' ρ1 ρ2 ρ3 : Rho} {ta tb tc te tl : TE} {d e x y : D} {ds es xs ys rs : List D}
/-! ### data that == tells apart -/
structure EqT (α : Type) [DecidableEq α] (dd : α → D) (pd : α → PyData) (ok : α → Prop) (n : Nat) : Prop where
  dp : ∀ (K : PySem.W.Frag) (H : Hp) (v : V) (a : α), Dz K H v (dd a) → Dp K H v (pd a)
  lay : ∀ a, ok a → (pd a).canLay0 = true
  dep : ∀ a, (pd a).depth ≤ n
  eqv : ∀ a b, PyData.eqv (pd a) (pd b) = decide (a = b)
theorem EqT.int : EqT Int D.int PyData.int (fun _ => True) 0 where
  dp := fun K H v a h => by rw [h.int_inv]; exact .int a
  lay := fun _ _ => by simp [PyData.canLay0]
  dep := fun _ => by simp [PyData.depth]
  eqv := fun a b => by
    simp only [PyData.eqv]
    by_cases h : a = b
    · subst h; simp
    · simp [h]
def StrOk (x : Str) : Prop := PyData.strOk x = true
theorem EqT.str : EqT Str D.str PyData.str StrOk 0 where
  dp := fun K H v a h => by rw [h.str_inv]; exact .str a
  lay := fun _ h => by simp only [PyData.canLay0]; exact h
  dep := fun _ => by simp [PyData.depth]
  eqv := fun a b => by
    simp only [PyData.eqv]
    by_cases h : a = b
    · subst h; simp
    · simp [h]
section
variable {α : Type} [DecidableEq α] {dd : α → D} {pd : α → PyData} {ok : α → Prop} {n : Nat}
theorem EqT.dpAll (E : EqT α dd pd ok n) {H : Hp} : ∀ {vs : List V} {as : List α}, Dzs K H vs (as.map dd) → DpAll K H vs (as.map pd)
  | _, [], .nil => .nil
  | _, a :: as, .cons h hs => .cons (E.dp K H _ a h) (EqT.dpAll E hs)
theorem EqT.layAll (E : EqT α dd pd ok n) : ∀ {as : List α}, (∀ a ∈ as, ok a) → PyData.canLayAll0 (as.map pd) = true
  | [], _ => by simp [PyData.canLayAll0]
  | a :: as, h => by
    rw [List.map_cons, PyData.canLayAll0, E.lay a (h a List.mem_cons_self), EqT.layAll E fun x hx => h x (List.mem_cons_of_mem _ hx)]
    rfl
theorem EqT.depAll (E : EqT α dd pd ok n) : ∀ as : List α, PyData.depthAll (as.map pd) ≤ n + 1
  | [] => by simp [PyData.depthAll]
  | a :: as => by
    have h1 := EqT.depAll E as
    have h2 := E.dep a
    simp only [List.map_cons, PyData.depthAll]
    omega
theorem EqT.eqvAll (E : EqT α dd pd ok n) : ∀ as bs : List α, PyData.eqvAll (as.map pd) (bs.map pd) = decide (as = bs)
  | [], [] => by simp [PyData.eqvAll]
  | [], b :: bs => by simp [PyData.eqvAll]
  | a :: as, [] => by simp [PyData.eqvAll]
  | a :: as, b :: bs => by
    have h1 := EqT.eqvAll E as bs
    simp only [List.map_cons, PyData.eqvAll, E.eqv, h1]
    by_cases h : a = b
    · subst h
      simp
    · simp [h]
theorem EqT.tup (E : EqT α dd pd ok n) : EqT (List α) (fun l => .tup (l.map dd)) (fun l => .tuple (l.map pd)) (fun l => ∀ a ∈ l, ok a) (n + 2) where
  dp := fun K H v a h => by
    obtain ⟨p, xs, rfl, hs, hz⟩ := h.tup_inv
    exact .tup hs (E.dpAll hz)
  lay := fun a h => by simp only [PyData.canLay0]; exact E.layAll h
  dep := fun a => by
    have := E.depAll a
    simp only [PyData.depth]
    omega
  eqv := fun a b => by simp only [PyData.eqv]; exact E.eqvAll a b
theorem EqT.shape (E : EqT α dd pd ok n) (hn : n ≤ 60) {a : α} (h : ok a) : SeqAt.shaped (pd a) = true := by
  have := E.dep a
  simp [SeqAt.shaped, E.lay a h]
  omega
theorem EqT.shapeT (E : EqT α dd pd ok n) (hn : n ≤ 60) {as : List α} (h : ∀ a ∈ as, ok a) : SeqAt.shaped (.tuple (as.map pd)) = true := by
  have := E.depAll as
  simp [SeqAt.shaped, PyData.canLay0, E.layAll h, PyData.depth]
  omega
theorem EqT.shapeL (E : EqT α dd pd ok n) (hn : n ≤ 60) {as : List α} (h : ∀ a ∈ as, ok a) : SeqAt.shaped (.list (as.map pd)) = true := by
  have := E.depAll as
  simp [SeqAt.shaped, PyData.canLay0, E.layAll h, PyData.depth]
  omega
theorem EqT.any (E : EqT α dd pd ok n) (a : α) : ∀ as : List α, ((as.map pd).any fun z => PyData.eqv z (pd a)) = decide (a ∈ as)
  | [] => by simp
  | b :: as => by
    rw [List.map_cons, List.any_cons, EqT.any E a as, E.eqv]
    by_cases h : b = a
    · subst h; simp
    · have h' : ¬ a = b := fun z => h z.symm
      simp [h, h']
theorem ev_notInX (E : EqT α dd pd ok n) (hn : n ≤ 60) {a : α} {as : List α} (oa : ok a) (os : ∀ a ∈ as, ok a) (ha : EvZ K ta ρ ρ1 (dd a)) (hb : RdZ K tb ρ1 ρ2 (.lst (as.map dd))) : EvZ K (tOp (rNotInD K) ta tb) ρ ρ2 (.bl (!decide (a ∈ as))) :=
  ev_op ha hb fun u v G H Q e du dv q => by
    obtain ⟨p, xs, rfl, hs, hz⟩ := dv.lst_inv
    refine ⟨pd a, as.map pd, E.dp K H u a (du.mono e), .lst hs (E.dpAll hz), E.shape hn oa, E.shapeL hn os, ?_⟩
    rw [E.any]
    exact q _ (.bl _)
theorem EqT.idx (E : EqT α dd pd ok n) {a : α} {as : List α} (h : a ∈ as) : (as.map pd)[as.idxOf a]? = some (pd a) ∧ ∀ (m : Nat) (z : PyData), m < as.idxOf a → (as.map pd)[m]? = some z → PyData.eqv z (pd a) = false := by
  have hj : as.idxOf a < as.length := List.idxOf_lt_length_iff.mpr h
  refine ⟨by rw [List.getElem?_map, List.getElem?_eq_getElem hj, List.getElem_idxOf hj]; rfl, fun m z hm hz => ?_⟩
  rw [List.getElem?_map, List.getElem?_eq_getElem (by omega)] at hz
  cases hz
  rw [E.eqv]
  refine decide_eq_false fun e => ?_
  have z := List.not_of_lt_findIdx (p := fun x => x == a) (xs := as) hm
  simp at z
  exact z e
/-- xs.index(x), xs a list -/
theorem ev_indexL (E : EqT α dd pd ok n) (hn : n ≤ 60) {a : α} {as : List α} (oa : ok a) (os : ∀ a ∈ as, ok a) (hm : a ∈ as) (hl : EvZ K tl ρ ρ1 (.lst (as.map dd))) (hx : EvZ K te ρ1 ρ2 (dd a)) : EvZ K (tBM K "list" (rIndexD K) tl (tCons te tNil)) ρ ρ2 (.int (as.idxOf a : Nat)) := fun M G H σ S Q q =>
  hl M G H σ S _ fun u G1 H1 g1 s1 du => by
    obtain ⟨p, xs, rfl, hs, hz⟩ := du.lst_inv
    obtain ⟨i1, i2⟩ := E.idx hm
    exact ⟨.inl ⟨rfl, xs, ex_l s1.sub hs⟩, hx M G1 H1 σ s1 _ fun v G2 H2 g2 s2 dv => ⟨p, v, pd a, as.map pd, _, _, rfl, rfl, .lst (ex_l (g2.g.trans s2.sub) hs) (E.dpAll ((hz.mono g2.g).mono s2.sub)), E.dp K H2 v a (dv.mono s2.sub), E.shapeL hn os, E.shape hn oa, i1, by rw [E.eqv]; exact decide_eq_true rfl, i2, q _ G2 H2 (g1.trans g2) s2 (.int _)⟩⟩
end
end
end Z

set_option Elab.async false
set_option linter.all false
set_option maxRecDepth 100000
set_option maxHeartbeats 2000000
/-! ZVec: xs[k] += n; zip of two lists; [x] * n with any n. -/
namespace Z
open PySem PySem.Spec PyProof.Rows L2
open Evl (Ex Ex.refl Ex.trans Ex.new ex_rd ex_l ex_t sq_of st_of fresh_back sz_of sz_lt)
section
variable {X : Cx}
end
section
variable {K : PySem.W.Frag} {S : List Nat} {ρ ρ' ρ1 ρ2 ρ3 : Rho} {ta tb tc te tk tl : TE} {tx : TA} {d e x y : D} {ds es xs ys rs : List D}
end
end Z

set_option Elab.async false
set_option linter.all false
set_option maxRecDepth 100000
set_option maxHeartbeats 2000000
/-! SpK: groups, room, grouping_of, group_of. -/
namespace Z
open PySem PySem.Spec PyProof.Rows L2
open Evl (Ex Ex.refl Ex.trans Ex.new ex_rd ex_l ex_t sq_of st_of fresh_back sz_of sz_lt)
def memsOf : List Dm → List Nat → List (List Str)
  | d :: ds, l :: g => memL d.leaves l :: memsOf ds g
  | _, _ => []
section
variable {K : PySem.W.Frag} {C : Addr}
def grpD (us : CellW) : D := .tup (us.map fun w => .str (pathS w))
/-! ### cells as the program counts them -/
theorem fold_cells : ∀ (ds : List Dm) (acc : List CellW), (ds.map Dm.leaves).foldl consE acc = acc.flatMap fun a => (cellsR ds).map fun c => a ++ c
  | [], acc => by
    show acc = acc.flatMap fun a => [a ++ []]
    induction acc with
    | nil => rfl
    | cons a acc ih => rw [List.flatMap_cons, ← ih, List.append_nil]; rfl
  | d :: ds, acc => by
    rw [List.map_cons, List.foldl_cons, fold_cells ds]
    unfold consE
    rw [List.flatMap_assoc]
    refine congrArg (fun f => List.flatMap f acc) (funext fun a => ?_)
    rw [List.flatMap_map]
    show _ = List.map _ (d.leaves.flatMap fun ws => (cellsR ds).map fun c => ws :: c)
    rw [List.map_flatMap]
    refine congrArg (fun f => List.flatMap f d.leaves) (funext fun ws => ?_)
    rw [List.map_map]
    refine List.map_congr_left fun c _ => ?_
    show a ++ [ws] ++ c = a ++ ws :: c
    rw [List.append_assoc]
    rfl
theorem celS_is (ds : List Dm) : celS ds = (cellsR ds).map fun c => c.map pathS := by
  unfold celS
  have e : ds.map Dm.paths = (ds.map Dm.leaves).map fun r => r.map pathS := by rw [List.map_map]; rfl
  rw [e, choices_map]
  unfold choicesD
  rw [fold_cells ds [[]]]
  show List.map _ (List.map _ _ ++ []) = _
  rw [List.append_nil, List.map_map]
  rfl
def takeG : List Nat → CellW → CellW
  | l :: g, w :: c => w.take l :: takeG g c
  | _, _ => []
theorem cell_good : ∀ (ds : List Dm) (c : CellW), (∀ d ∈ ds, ∃ n, d.Good n) → c ∈ cellsR ds → c.length = ds.length ∧ ∀ w ∈ c, GoodW w ∧ w.length ≤ 3
  | [], c, _, h => by
    rw [List.mem_singleton.mp h]
    exact ⟨rfl, fun _ z => (by cases z)⟩
  | d :: ds, c, hd, h => by
    obtain ⟨ws, hw, h⟩ := List.mem_flatMap.mp h
    obtain ⟨c1, hc1, rfl⟩ := List.mem_map.mp h
    obtain ⟨n, g⟩ := hd d List.mem_cons_self
    obtain ⟨h1, h2⟩ := cell_good ds c1 (fun x hx => hd x (List.mem_cons_of_mem _ hx)) hc1
    refine ⟨by rw [List.length_cons, List.length_cons, h1], fun w hw' => ?_⟩
    rcases List.mem_cons.mp hw' with e | e
    · rw [e]; exact ⟨g.words ws hw, by rw [g.depth ws hw]; exact g.n3⟩
    · exact h2 w e
end
end Z

set_option Elab.async false
set_option linter.all false
set_option maxRecDepth 100000
set_option maxHeartbeats 2000000
/-! SpL: the number of a cell by its coordinates; groups taken. -/
namespace Z
open PySem PySem.Spec PyProof.Rows L2
open Evl (Ex Ex.refl Ex.trans Ex.new ex_rd ex_l ex_t sq_of st_of fresh_back sz_of sz_lt)
/-! ### cells are different ones -/
theorem leaves_nd {d : Dm} {n : Nat} (h : d.Good n) : d.leaves.Nodup := by
  have q := h.asc
  unfold Dm.paths at q
  rw [List.pairwise_map] at q
  exact q.imp fun {a b} hab e => by
    rw [e] at hab
    exact List.lt_irrefl _ hab
theorem cellsR_nd : ∀ ds : List Dm, (∀ d ∈ ds, ∃ n, d.Good n) → (cellsR ds).Nodup
  | [], _ => by
    show [([] : CellW)].Nodup
    simp
  | d :: ds, h => by
    obtain ⟨n, g⟩ := h d List.mem_cons_self
    have ih := cellsR_nd ds fun x hx => h x (List.mem_cons_of_mem _ hx)
    have all : ∀ lv : List (List Str), lv.Nodup → (lv.flatMap fun ws => (cellsR ds).map fun c => ws :: c).Nodup := fun lv => by
      induction lv with
      | nil => exact fun _ => .nil
      | cons w lv ih2 =>
        intro hn
        rw [List.nodup_cons] at hn
        rw [List.flatMap_cons, List.nodup_append]
        refine ⟨List.pairwise_map.mpr (ih.imp fun {a b} hab e => hab (by injection e)), ih2 hn.2, fun a ha b hb e => ?_⟩
        subst e
        obtain ⟨c1, _, rfl⟩ := List.mem_map.mp ha
        obtain ⟨w2, hw2, hb⟩ := List.mem_flatMap.mp hb
        obtain ⟨c2, _, e⟩ := List.mem_map.mp hb
        injection e with e1 e2
        rw [e1] at hw2
        exact hn.1 hw2
    exact all d.leaves (leaves_nd g)
theorem map_path_inj : ∀ {a b : CellW}, (∀ w ∈ a, GoodW w) → (∀ w ∈ b, GoodW w) → a.map pathS = b.map pathS → a = b
  | [], [], _, _, _ => rfl
  | [], _ :: _, _, _, h => by cases h
  | _ :: _, [], _, _, h => by cases h
  | x :: a, y :: b, ha, hb, h => by
    rw [List.map_cons, List.map_cons] at h
    injection h with h1 h2
    rw [path_inj (ha x List.mem_cons_self) (hb y List.mem_cons_self) h1, map_path_inj (fun w hw => ha w (List.mem_cons_of_mem _ hw)) (fun w hw => hb w (List.mem_cons_of_mem _ hw)) h2]
theorem celS_nd {ds : List Dm} (g : GoodDs ds) : (celS ds).Nodup := by
  rw [celS_is]
  refine List.pairwise_map.mpr (List.Pairwise.imp_of_mem (fun {a b} ha hb hab e => hab ?_) (cellsR_nd ds g.good))
  exact map_path_inj (fun w hw => ((cell_good ds a g.good ha).2 w hw).1) (fun w hw => ((cell_good ds b g.good hb).2 w hw).1) e
end Z

set_option Elab.async false
set_option linter.all false
set_option maxRecDepth 100000
set_option maxHeartbeats 2000000
/-! SpM: Space.cell, check_group, group_cells. -/
namespace Z
open PySem PySem.Spec PyProof.Rows L2
open Evl (Ex Ex.refl Ex.trans Ex.new ex_rd ex_l ex_t sq_of st_of fresh_back sz_of sz_lt)
namespace K04
end K04
/-- us names a member in each dimension -/
def GrpIn : List Dm → CellW → Prop
  | [], [] => True
  | d :: ds, u :: us => (∃ l, l ≤ d.dep ∧ u ∈ memW d.leaves l) ∧ GrpIn ds us
  | _, _ => False
theorem GrpIn.len : ∀ {ds : List Dm} {us : CellW}, GrpIn ds us → us.length = ds.length
  | [], [], _ => rfl
  | _ :: _, _ :: _, h => congrArg (· + 1) h.2.len
  | [], _ :: _, h => h.elim
  | _ :: _, [], h => h.elim
section
variable {K : PySem.W.Frag} {C : Addr}
end
/-! ### the leaves below a member, by themselves -/
end Z

set_option Elab.async false
set_option linter.all false
set_option maxRecDepth 100000
set_option maxHeartbeats 2000000
/-! SpN: group_cells. -/
namespace Z
open PySem PySem.Spec PyProof.Rows L2
open Evl (Ex Ex.refl Ex.trans Ex.new ex_rd ex_l ex_t sq_of st_of fresh_back sz_of sz_lt)
section
variable {K : PySem.W.Frag} {C : Addr}
end
end Z

set_option Elab.async false
set_option linter.all false
set_option maxRecDepth 100000
set_option maxHeartbeats 2000000
/-! LawP: how laws count cells and name groups: _law_prefix, _law_count, _law_parts, _law_group. -/
namespace Z
open PySem PySem.Spec PyProof.Rows L2
open Evl (Ex Ex.refl Ex.trans Ex.new ex_rd ex_l ex_t sq_of st_of fresh_back sz_of sz_lt)
def t__law_prefix (K : PySem.W.Frag) : TS :=
  (tRet (tM1 (rJoin K) (tC (.str "/")) (tSl (rSlL K) (tM1 rSplit (tVar 0) (tC (.str "/"))) tNoPart (tPart (tVar 1)))))

section
variable {K : PySem.W.Frag}
theorem split_path {ws : List Str} (hg : GoodW ws) (h1 : 1 ≤ ws.length) : Txt.split (pathS ws) slS = ws := by
  have pos : 1 ≤ (pathS ws).length := by
    cases ws with
    | nil => simp at h1
    | cons w ws => exact path_pos hg
  have q := words_path hg
  unfold wordsS at q
  rw [if_pos (by simp; omega)] at q
  exact q
/-! ### _law_prefix -/
def CPrefix (R : Rel) : Prop := ∀ (ws : List Str) (l : Nat), GoodW ws → 1 ≤ ws.length → ws.length ≤ 50 → R ([.str (pathS ws), .int (l : Int)].map .fr) (.fr (.str (pathS (ws.take l)))) ([.str (pathS ws), .int (l : Int)].map .fr)
theorem rel_prefix : CPrefix (RelOf K [] (t__law_prefix K) 2 2) := fun ws l hg h1 h50 => by
  have hp := path_len hg
  have e := split_path hg h1
  have h := en_slZ (K := K) (ρ := [.fr (.str (pathS ws)), .fr (.int (l : Int))]) (te := tM1 rSplit (tVar 0) (tC (.str "/"))) (EvN.ev (en_split (b := slS) (ev_var (i := 0) rfl) ev_str (by decide +kernel) (by omega)) OwnIn.refl) poz_none (poz_some (ev_var (i := 1) rfl))
  rw [e, map_cut] at h
  exact rel_rt (ds := [.str (pathS ws), .int (l : Int)]) ⟨_, ex_ret (ev_join (a := slS) (zs := ws.take l) ev_str (EvN.rd h) (join_small (hg.take l) (by rw [List.length_take]; omega)))⟩
/-! ### _law_count -/
/-! ### _law_parts -/
/-! ### _law_group -/
def CGroup (R : Rel) : Prop := ∀ (ds : List Dm) (g : List Nat) (i : Nat) (c : CellW), GoodDs ds → GrOk ds g → (cellsR ds)[i]? = some c → R ([dimsD ds, grD g, .int (i : Int)].map .fr) (.fr (grpD (takeG g c))) ([dimsD ds, grD g, .int (i : Int)].map .fr)
end
end Z

set_option Elab.async false
set_option linter.all false
set_option maxRecDepth 100000
set_option maxHeartbeats 2000000
/-! LawN: numbers that laws draw; gcd; fractions. -/
namespace Z
open PySem PySem.Spec PyProof.Rows L2
open Evl (Ex Ex.refl Ex.trans Ex.new ex_rd ex_l ex_t sq_of st_of fresh_back sz_of sz_lt)
section
variable {K : PySem.W.Frag}
/-! ### sizes -/
def Bd (n : Nat) (i : Int) : Prop := i.natAbs < 2 ^ n
theorem Bd.mono {a b : Nat} {i : Int} (h : Bd a i) (hab : a ≤ b) : Bd b i := Nat.lt_of_lt_of_le h (Nat.pow_le_pow_right (by decide) hab)
theorem Bd.le {a : Nat} {i j : Int} (h : Bd a i) (hj : j.natAbs ≤ i.natAbs) : Bd a j := Nat.lt_of_le_of_lt hj h
theorem Bd.add {a : Nat} {i j : Int} (h : Bd a i) (k : Bd a j) : Bd (a + 1) (i + j) := by
  unfold Bd at *
  rw [Nat.pow_succ]
  have := Int.natAbs_add_le i j
  omega
theorem Bd.sub {a : Nat} {i j : Int} (h : Bd a i) (k : Bd a j) : Bd (a + 1) (i - j) := by
  have e : i - j = i + -j := by omega
  rw [e]
  exact h.add (by unfold Bd; rw [Int.natAbs_neg]; exact k)
/-! ### fractions -/
def sgT (t b : Int) : Int := if b < 0 then -t else t
def gcI (t b : Int) : Int := (Nat.gcd t.natAbs b.natAbs : Nat)
/-- in lowest terms, the lower part at least 1 -/
def FR (t b : Int) : Int × Int := ((sgT t b).fdiv (gcI t b), (sgT b b).fdiv (gcI t b))
def frD (p : Int × Int) : D := .tup [.int p.1, .int p.2]
theorem gcI_pos {t b : Int} (h : b ≠ 0) : 0 < gcI t b := by
  unfold gcI
  have : 0 < Nat.gcd t.natAbs b.natAbs := Nat.gcd_pos_of_pos_right _ (by omega)
  omega
theorem gcI_dvd_l (t b : Int) : gcI t b ∣ t := by
  have h : ((Nat.gcd t.natAbs b.natAbs : Nat) : Int) ∣ (t.natAbs : Int) := Int.natCast_dvd_natCast.mpr (Nat.gcd_dvd_left _ _)
  exact Int.dvd_natAbs.mp h
theorem gcI_dvd_r (t b : Int) : gcI t b ∣ b := by
  have h : ((Nat.gcd t.natAbs b.natAbs : Nat) : Int) ∣ (b.natAbs : Int) := Int.natCast_dvd_natCast.mpr (Nat.gcd_dvd_right _ _)
  exact Int.dvd_natAbs.mp h
theorem sgT_abs (t b : Int) : (sgT t b).natAbs = t.natAbs := by unfold sgT; split <;> omega
theorem sgT_dvd {g t b : Int} (h : g ∣ t) : g ∣ sgT t b := by
  unfold sgT
  split
  · exact (Int.dvd_neg).mpr h
  · exact h
theorem FR_mul1 {t b : Int} (h : b ≠ 0) : (FR t b).1 * gcI t b = sgT t b := by
  show (sgT t b).fdiv (gcI t b) * gcI t b = _
  rw [Int.fdiv_eq_ediv_of_nonneg _ (Int.le_of_lt (gcI_pos h))]
  exact Int.ediv_mul_cancel (sgT_dvd (gcI_dvd_l t b))
theorem FR_mul2 {t b : Int} (h : b ≠ 0) : (FR t b).2 * gcI t b = sgT b b := by
  show (sgT b b).fdiv (gcI t b) * gcI t b = _
  rw [Int.fdiv_eq_ediv_of_nonneg _ (Int.le_of_lt (gcI_pos h))]
  exact Int.ediv_mul_cancel (sgT_dvd (gcI_dvd_r t b))
theorem natAbs_le_mul {x g y : Int} (h : x * g = y) (hg : 0 < g) : x.natAbs ≤ y.natAbs := by
  rw [← h, Int.natAbs_mul]
  have : 1 ≤ g.natAbs := by omega
  exact Nat.le_mul_of_pos_right _ this
theorem FR_pos {t b : Int} (h : b ≠ 0) : 1 ≤ (FR t b).2 := by
  have e := FR_mul2 (t := t) h
  have g := gcI_pos (t := t) h
  have s : 0 < sgT b b := by unfold sgT; split <;> omega
  rw [← e] at s
  have := Int.pos_of_mul_pos_left s g
  omega
theorem FR_bd1 {n : Nat} {t b : Int} (h : b ≠ 0) (ht : Bd n t) : Bd n (FR t b).1 := ht.le (by
  have := natAbs_le_mul (FR_mul1 (t := t) h) (gcI_pos h)
  rw [sgT_abs] at this
  exact this)
theorem FR_bd2 {n : Nat} {t b : Int} (h : b ≠ 0) (hb : Bd n b) : Bd n (FR t b).2 := hb.le (by
  have := natAbs_le_mul (FR_mul2 (t := t) h) (gcI_pos h)
  rw [sgT_abs] at this
  exact this)
/-! ### fraction -/
def CFr (R : Rel) : Prop := ∀ t b : Int, b ≠ 0 → Bd 8000 b → R [.fr (.int t), .fr (.int b)] (.fr (frD (FR t b))) [.fr (.int t), .fr (.int b)]
/-! ### _law_gcd -/
def CGcd (R : Rel) : Prop := ∀ t b : Int, R [.fr (.int t), .fr (.int b)] (.fr (.int (gcI t b))) [.fr (.int t), .fr (.int b)]
/-! ### _law_fraction -/
/-! ### plus, minus, times, over, below -/
def CPlus (R : Rel) : Prop := ∀ p q : Int × Int, p.2 ≠ 0 → q.2 ≠ 0 → Bd 4000 p.1 → Bd 4000 p.2 → Bd 4000 q.1 → Bd 4000 q.2 → R [.fr (frD p), .fr (frD q)] (.fr (frD (FR (p.1 * q.2 + q.1 * p.2) (p.2 * q.2)))) [.fr (frD p), .fr (frD q)]
def CMinus (R : Rel) : Prop := ∀ p q : Int × Int, p.2 ≠ 0 → q.2 ≠ 0 → Bd 4000 p.1 → Bd 4000 p.2 → Bd 4000 q.1 → Bd 4000 q.2 → R [.fr (frD p), .fr (frD q)] (.fr (frD (FR (p.1 * q.2 - q.1 * p.2) (p.2 * q.2)))) [.fr (frD p), .fr (frD q)]
def CTimes (R : Rel) : Prop := ∀ p q : Int × Int, p.2 ≠ 0 → q.2 ≠ 0 → Bd 4000 p.1 → Bd 4000 p.2 → Bd 4000 q.1 → Bd 4000 q.2 → R [.fr (frD p), .fr (frD q)] (.fr (frD (FR (p.1 * q.1) (p.2 * q.2)))) [.fr (frD p), .fr (frD q)]
def COver (R : Rel) : Prop := ∀ p q : Int × Int, p.2 ≠ 0 → q.1 ≠ 0 → Bd 4000 p.1 → Bd 4000 p.2 → Bd 4000 q.1 → Bd 4000 q.2 → R [.fr (frD p), .fr (frD q)] (.fr (frD (FR (p.1 * q.2) (p.2 * q.1)))) [.fr (frD p), .fr (frD q)]
def CBelow (R : Rel) : Prop := ∀ p q : Int × Int, Bd 4000 p.1 → Bd 4000 p.2 → Bd 4000 q.1 → Bd 4000 q.2 → R [.fr (frD p), .fr (frD q)] (.fr (.bl (decide (p.1 * q.2 < q.1 * p.2)))) [.fr (frD p), .fr (frD q)]
section
variable {Rf : Rel} (hf : CFr Rf)
include hf
end
/-! ### _law_number -/
def CNumb (R : Rel) : Prop := ∀ (b : List D) (m : Int), GoodBox b → 0 ≤ m → ∃ (v : Int) (b' : List D), GoodBox b' ∧ -m ≤ v ∧ v ≤ m ∧ R [.own b, .fr (.int m)] (.fr (.int v)) [.own b', .fr (.int m)]
end
end Z

set_option Elab.async false
set_option linter.all false
set_option maxRecDepth 100000
set_option maxHeartbeats 2000000
/-! LawV: vectors of fractions: inner products, primitive forms. -/
namespace Z
open PySem PySem.Spec PyProof.Rows L2
open Evl (Ex Ex.refl Ex.trans Ex.new ex_rd ex_l ex_t sq_of st_of fresh_back sz_of sz_lt)
section
variable {K : PySem.W.Frag}
abbrev Fra := Int × Int
def vecD (ps : List Fra) : D := .tup (ps.map frD)
/-- a fraction of small parts -/
def FraOk (n : Nat) (p : Fra) : Prop := Bd n p.1 ∧ Bd n p.2 ∧ 1 ≤ p.2
theorem FraOk.ne {n : Nat} {p : Fra} (h : FraOk n p) : p.2 ≠ 0 := by have := h.2.2; omega
def fTimes (p q : Fra) : Fra := FR (p.1 * q.1) (p.2 * q.2)
def fPlus (p q : Fra) : Fra := FR (p.1 * q.2 + q.1 * p.2) (p.2 * q.2)
def fMinus (p q : Fra) : Fra := FR (p.1 * q.2 - q.1 * p.2) (p.2 * q.2)
/-! ### inner -/
def innerV : Fra → List (Fra × Fra) → Fra
  | t, [] => t
  | t, (p, q) :: l => innerV (fPlus t (fTimes p q)) l
def CInner (R : Rel) : Prop := ∀ ps qs : List Fra, ps.length = qs.length → ps.length ≤ 20 → (∀ p ∈ ps, FraOk 40 p) → (∀ p ∈ qs, FraOk 40 p) → R [.fr (vecD ps), .fr (vecD qs)] (.fr (frD (innerV (0, 1) (ps.zip qs)))) [.fr (vecD ps), .fr (vecD qs)]
/-! ### primitive -/
def lcmL (l : Int) (ps : List Fra) : Int := ps.foldl (fun l p => ((Nat.lcm l.natAbs p.2.natAbs : Nat) : Int)) l
def gcdL (g : Int) (xs : List Int) : Int := xs.foldl (fun g x => gcI g x) g
def priI (ps : List Fra) : List Int := ps.map fun p => p.1 * (lcmL 1 ps).fdiv p.2
def priV (ps : List Fra) : List Int := (priI ps).map fun i => i.fdiv (max (gcdL 0 (priI ps)) 1)
theorem lcm_bd {a b : Nat} {i j : Int} (h : Bd a i) (k : Bd b j) : Bd (a + b) ((Nat.lcm i.natAbs j.natAbs : Nat) : Int) := by
  unfold Bd at *
  rw [Int.natAbs_natCast, Nat.pow_add]
  exact Nat.lt_of_le_of_lt (lcm_le_mul _ _) (Nat.mul_lt_mul'' h k)
theorem lcm_pos' {i j : Int} (h : 1 ≤ i) (k : 1 ≤ j) : 1 ≤ ((Nat.lcm i.natAbs j.natAbs : Nat) : Int) := by
  have := Nat.lcm_pos (m := i.natAbs) (n := j.natAbs) (by omega) (by omega)
  omega
theorem lcmL_facts : ∀ (ps : List Fra) (l : Int) (n : Nat), 1 ≤ l → Bd n l → (∀ p ∈ ps, FraOk 40 p) → 1 ≤ lcmL l ps ∧ Bd (n + 40 * ps.length) (lcmL l ps) ∧ l ∣ lcmL l ps ∧ ∀ p ∈ ps, p.2 ∣ lcmL l ps
  | [], l, n, h1, h2, _ => ⟨h1, h2, Int.dvd_refl _, fun p hp => by cases hp⟩
  | p :: ps, l, n, h1, h2, h3 => by
    have hp := h3 p List.mem_cons_self
    obtain ⟨a, b, c, d⟩ := lcmL_facts ps ((Nat.lcm l.natAbs p.2.natAbs : Nat) : Int) (n + 40) (lcm_pos' h1 hp.2.2) (lcm_bd h2 hp.2.1) (fun x hx => h3 x (List.mem_cons_of_mem _ hx))
    refine ⟨a, b.mono (by rw [List.length_cons]; omega), Int.dvd_trans ?_ c, fun q hq => ?_⟩
    · exact Int.natAbs_dvd_natAbs.mp (by rw [Int.natAbs_natCast]; exact Nat.dvd_lcm_left _ _)
    · rcases List.mem_cons.mp hq with rfl | hq
      · exact Int.dvd_trans (Int.natAbs_dvd_natAbs.mp (by rw [Int.natAbs_natCast]; exact Nat.dvd_lcm_right _ _)) c
      · exact d q hq
def VecOk (ps : List Fra) : Prop := ps.length ≤ 20 ∧ ∀ p ∈ ps, FraOk 40 p
theorem bd_one : Bd 1 1 := by unfold Bd; decide
theorem VecOk.lcm {ps : List Fra} (h : VecOk ps) : 1 ≤ lcmL 1 ps ∧ Bd 900 (lcmL 1 ps) ∧ ∀ p ∈ ps, p.2 ∣ lcmL 1 ps := by
  obtain ⟨a, b, _, d⟩ := lcmL_facts ps 1 1 (by decide) bd_one h.2
  exact ⟨a, b.mono (by have := h.1; omega), d⟩
def CPri (R : Rel) : Prop := ∀ ps : List Fra, VecOk ps → R [.fr (vecD ps)] (.fr (.tup ((priV ps).map .int))) [.fr (vecD ps)]
/-! ### what primitive forms are -/
theorem gcI_scale (g x m : Int) (hm : 0 ≤ m) : gcI (g * m) (x * m) = gcI g x * m := by
  unfold gcI
  rw [Int.natAbs_mul, Int.natAbs_mul, Nat.gcd_mul_right, Int.natCast_mul, Int.natAbs_of_nonneg hm]
end
end Z

set_option Elab.async false
set_option linter.all false
set_option maxRecDepth 100000
set_option maxHeartbeats 2000000
/-! SpO: indicator. -/
namespace Z
open PySem PySem.Spec PyProof.Rows L2
open Evl (Ex Ex.refl Ex.trans Ex.new ex_rd ex_l ex_t sq_of st_of fresh_back sz_of sz_lt)
theorem ixN_nat {n j : Nat} (h : j < n) : ixN n (j : Int) = some j := by
  unfold ixN
  rw [if_pos (by omega), if_pos (by omega), Int.toNat_natCast]
def ones (js : List Nat) (xs : List Nat) : List Nat := js.foldl (fun xs j => xs.set j 1) xs
section
variable {K : PySem.W.Frag} {C : Addr}
end
end Z

set_option Elab.async false
set_option linter.all false
set_option maxRecDepth 100000
set_option maxHeartbeats 2000000
/-! LawM: projections and means. -/
namespace Z
open PySem PySem.Spec PyProof.Rows L2
open Evl (Ex Ex.refl Ex.trans Ex.new ex_rd ex_l ex_t sq_of st_of fresh_back sz_of sz_lt)
section
/-! ### fractions of one value -/
theorem FR_scale {t b k : Int} (hk : 0 < k) : FR (t * k) (b * k) = FR t b := by
  have hg : gcI (t * k) (b * k) = gcI t b * k := gcI_scale t b k (by omega)
  have hs : ∀ x : Int, sgT (x * k) (b * k) = sgT x b * k := fun x => by
    unfold sgT
    by_cases h : b < 0
    · rw [if_pos h, if_pos (Int.mul_neg_of_neg_of_pos h hk), Int.neg_mul]
    · rw [if_neg h, if_neg (by have := Int.mul_nonneg (show 0 ≤ b by omega) (show 0 ≤ k by omega); omega)]
  unfold FR
  rw [hg, hs, hs, Int.mul_fdiv_mul_of_pos_left _ _ hk, Int.mul_fdiv_mul_of_pos_left _ _ hk]
theorem FR_congr {t b t' b' : Int} (hb : 0 < b) (hb' : 0 < b') (h : t * b' = t' * b) : FR t b = FR t' b' := by
  rw [← FR_scale (t := t) (b := b) hb', ← FR_scale (t := t') (b := b') hb, h, Int.mul_comm b b']
/-- the value stays -/
theorem FR_val {t b : Int} (hb : 0 < b) : (FR t b).1 * b = t * (FR t b).2 := by
  have h1 := FR_mul1 (t := t) (b := b) (by omega)
  have h2 := FR_mul2 (t := t) (b := b) (by omega)
  have s : ∀ x : Int, sgT x b = x := fun x => by unfold sgT; rw [if_neg (by omega)]
  rw [s] at h1 h2
  have hg := gcI_pos (t := t) (b := b) (by omega)
  have e : (FR t b).1 * b * gcI t b = t * (FR t b).2 * gcI t b := by
    calc (FR t b).1 * b * gcI t b = ((FR t b).1 * gcI t b) * b := by simp only [Int.mul_assoc, Int.mul_comm, Int.mul_left_comm]
      _ = t * ((FR t b).2 * gcI t b) := by rw [h1, h2]
      _ = t * (FR t b).2 * gcI t b := by rw [Int.mul_assoc]
  exact Int.eq_of_mul_eq_mul_right (by omega) e
theorem FR_idem {t b : Int} (hb : 0 < b) : FR (FR t b).1 (FR t b).2 = FR t b :=
  FR_congr (by have := FR_pos (t := t) (b := b) (by omega); omega) hb (FR_val hb)
/-- in lowest terms -/
def Low (p : Fra) : Prop := 1 ≤ p.2 ∧ FR p.1 p.2 = p
theorem FR_low {t b : Int} (hb : 0 < b) : Low (FR t b) := ⟨FR_pos (by omega), FR_idem hb⟩
theorem fPlus_low {p q : Fra} (hp : 1 ≤ p.2) (hq : 1 ≤ q.2) : Low (fPlus p q) := FR_low (Int.mul_pos (by omega) (by omega))
/-! ### sums over groups -/
def selF (j : Nat) (L : List (Nat × Fra)) : List Fra := (L.filter fun x => decide (x.1 = j)).map (·.2)
def sumF (t : Fra) (l : List Fra) : Fra := l.foldl fPlus t
/-- all that is summed stays small -/
structure Safe (L : List (Nat × Fra)) : Prop where
  ent : ∀ x ∈ L, FraOk 3990 x.2
  tot : ∀ pre suf : List (Nat × Fra), L = pre ++ suf → ∀ j, FraOk 3990 (sumF (0, 1) (selF j pre))
/-! ### a projection's projection -/
/-! ### numbers of groups -/
/-! ### projection -/
section
variable {K : PySem.W.Frag} {C : Addr} {Rg Ro Rp Rr : Rel} {cz : V}
end
end
end Z

set_option Elab.async false
set_option linter.all false
set_option maxRecDepth 100000
set_option maxHeartbeats 2000000
/-! Law21: the law k21, what its rows come to. -/
namespace Z
open PySem PySem.Spec PyProof.Rows L2
open Evl (Ex Ex.refl Ex.trans Ex.new ex_rd ex_l ex_t sq_of st_of fresh_back sz_of sz_lt)
namespace K21
section
variable {K : PySem.W.Frag}
/-! ### _law_is_integers -/
def CInts (R : Rel) : Prop := ∀ is : List Int, is.length ≤ 1000 → R [.fr (.tup (is.map .int)), .fr (.int (is.length : Int))] (.fr (.bl true)) [.fr (.tup (is.map .int)), .fr (.int (is.length : Int))]
/-! ### _law_add, _law_a_fraction, _law_vector, _law_inner -/
def CVec (R : Rel) : Prop := ∀ (b : List D) (m : Nat), GoodBox b → m ≤ 20 → ∃ (ps : List Fra) (b' : List D), GoodBox b' ∧ ps.length = m ∧ (∀ p ∈ ps, FraOk 40 p) ∧ R [.own b, .fr (.int (m : Int))] (.fr (vecD ps)) [.own b', .fr (.int (m : Int))]
/-! ### the law -/
def CBox (R : Rel) : Prop := ∀ (ns : List Int) (k : Nat), k ≤ 1000000 → ∃ b, GoodBox b ∧ R [.fr (.lst (ns.map .int)), .fr (.int (k : Int))] (.own b) [.fr (.lst (ns.map .int)), .fr (.int (k : Int))]
def CSame (n : Nat) (R : Rel) : Prop := ∀ d : D, Plain n d → R [.fr d, .fr d] (.fr (.bl true)) [.fr d, .fr d]
section
variable {Rb Rd Rg Rli Rii Rs Rv Ri Rp : Rel}
variable {ps : List Fra} (h : VecOk ps)
theorem f1 {ρ : Rho} {te : TE} {p : Fra} (h : EvZ K te ρ ρ (frD p)) : EvZ K (tOp (rIx K) te (tC (.int 0))) ρ ρ (.int p.1) := ev_ixT h ev_int (by rfl)
theorem f2 {ρ : Rho} {te : TE} {p : Fra} (h : EvZ K te ρ ρ (frD p)) : EvZ K (tOp (rIx K) te (tC (.int 1))) ρ ρ (.int p.2) := ev_ixT h ev_int (by rfl)
end
section
variable {Rb Rd Rg Rli Rii Rs Rv Ri Rp : Rel} (hb : CBox Rb) (hd : Spec Rd PreDraw PostDraw) (hg : CGcd Rg) (hli : CInner Rli) (hii : CInts Rii) (hs : CSame 2 Rs) (hv : CVec Rv) (hi : CInner Ri) (hp : CPri Rp)
end
end
end K21
end Z

set_option Elab.async false
set_option linter.all false
set_option maxRecDepth 100000
set_option maxHeartbeats 2000000
/-! Law22: means by laws; the law k22. -/
namespace Z
open PySem PySem.Spec PyProof.Rows L2
open Evl (Ex Ex.refl Ex.trans Ex.new ex_rd ex_l ex_t sq_of st_of fresh_back sz_of sz_lt)
section
variable {K : PySem.W.Frag}
/-! ### groups of cells, told apart -/
def pkey (g : List Nat) (c : CellW) : List Str := (takeG g c).map pathS
theorem grp_key (g : List Nat) (c : CellW) : grpD (takeG g c) = .tup ((pkey g c).map .str) := by unfold grpD pkey; rw [List.map_map]; rfl
theorem takeG_good : ∀ {g : List Nat} {c : CellW}, (∀ w ∈ c, GoodW w) → ∀ w ∈ takeG g c, GoodW w
  | l :: g, w :: c, h, x, hx => by
    rcases List.mem_cons.mp hx with rfl | hx
    · exact (h w List.mem_cons_self).take l
    · exact takeG_good (fun y hy => h y (List.mem_cons_of_mem _ hy)) x hx
  | [], c, _, x, hx => by cases c <;> cases hx
  | _ :: _, [], _, x, hx => by cases hx
theorem joinL_mem {S : List Nat} : ∀ {ps : List (List Nat)} {c : Nat}, c ∈ TL.joinL S ps → c ∈ S ∨ ∃ p ∈ ps, c ∈ p
  | [], c, h => by cases h
  | [p], c, h => .inr ⟨p, List.mem_cons_self, h⟩
  | p :: q :: r, c, h => by
    have h' : c ∈ p ++ (S ++ TL.joinL S (q :: r)) := h
    rcases List.mem_append.mp h' with h | h
    · exact .inr ⟨p, List.mem_cons_self, h⟩
    · rcases List.mem_append.mp h with h | h
      · exact .inl h
      · rcases joinL_mem h with h | ⟨x, hx, h⟩
        · exact .inl h
        · exact .inr ⟨x, List.mem_cons_of_mem _ hx, h⟩
theorem let_small : ∀ c ∈ letS.cps.toList, c < 0x110000 := by decide +kernel
theorem path_ok {ws : List Str} (h : GoodW ws) : StrOk (pathS ws) := by
  unfold StrOk PyData.strOk
  rw [← Array.all_toList]
  refine List.all_eq_true.mpr fun c hc => decide_eq_true ?_
  have e : (pathS ws).cps.toList = TL.joinL (TL.tl slS) (ws.map TL.tl) := by
    show TL.tl (Txt.join slS ws) = _
    rw [TL.join_eq, TL.tl_join]
  rw [e] at hc
  rcases joinL_mem hc with h1 | ⟨p, hp, h1⟩
  · have : TL.tl slS = [47] := by decide +kernel
    rw [this] at h1
    rw [List.mem_singleton.mp h1]
    decide
  · obtain ⟨w, hw, rfl⟩ := List.mem_map.mp hp
    exact let_small c (word_letters (h w hw) c h1)
theorem key_ok {ds : List Dm} {g : List Nat} (gd : GoodDs ds) {c : CellW} (hc : c ∈ cellsR ds) : ∀ s ∈ pkey g c, StrOk s := fun s hs => by
  obtain ⟨w, hw, rfl⟩ := List.mem_map.mp hs
  exact path_ok (takeG_good (fun w hw => ((cell_good ds c gd.good hc).2 w hw).1) w hw)
section
variable {Ra Rc Rf Rg : Rel} {ds : List Dm} {g : List Nat} {ps : List Fra}
end
end
end Z

set_option Elab.async false
set_option linter.all false
set_option maxRecDepth 100000
set_option maxHeartbeats 2000000
/-! SpP: groups, each once, in the order of their first cells: the product of the members; the place of a cell's group. -/
namespace Z
open PySem PySem.Spec PyProof.Rows L2
section
variable {α β : Type} [DecidableEq α] [DecidableEq β]
def addT (acc : List α) (x : α) : List α := if x ∈ acc then acc else acc ++ [x]
def dedA (acc l : List α) : List α := l.foldl addT acc
theorem dedA_app (acc l m : List α) : dedA acc (l ++ m) = dedA (dedA acc l) m := by unfold dedA; rw [List.foldl_append]
theorem dedA_snoc (acc l : List α) (x : α) : dedA acc (l ++ [x]) = addT (dedA acc l) x := by rw [dedA_app]; rfl
theorem mem_addT {acc : List α} {x y : α} : y ∈ addT acc x ↔ y ∈ acc ∨ y = x := by
  unfold addT
  by_cases h : x ∈ acc
  · rw [if_pos h]
    exact ⟨.inl, fun z => z.elim id fun e => by rw [e]; exact h⟩
  · rw [if_neg h, List.mem_append, List.mem_singleton]
theorem mem_dedA : ∀ {l acc : List α} {y : α}, y ∈ dedA acc l ↔ y ∈ acc ∨ y ∈ l
  | [], acc, y => by show y ∈ acc ↔ _; simp
  | x :: l, acc, y => by
    show y ∈ dedA (addT acc x) l ↔ _
    rw [mem_dedA, mem_addT, List.mem_cons, or_assoc]
theorem dedA_in : ∀ {l acc : List α}, (∀ x ∈ l, x ∈ acc) → dedA acc l = acc
  | [], _, _ => rfl
  | x :: l, acc, h => by
    show dedA (addT acc x) l = acc
    have e : addT acc x = acc := by unfold addT; rw [if_pos (h x List.mem_cons_self)]
    rw [e]
    exact dedA_in fun y hy => h y (List.mem_cons_of_mem _ hy)
/-- in a block of its own -/
theorem dedA_block (f : α → β) (hf : ∀ x y, f x = f y → x = y) : ∀ (l acc : List α) (A : List β), (∀ x, f x ∉ A) → dedA (A ++ acc.map f) (l.map f) = A ++ (dedA acc l).map f
  | [], acc, A, _ => rfl
  | x :: l, acc, A, h => by
    rw [List.map_cons]
    show dedA (addT (A ++ acc.map f) (f x)) (l.map f) = A ++ (dedA (addT acc x) l).map f
    rw [← dedA_block f hf l (addT acc x) A h]
    congr 1
    unfold addT
    by_cases hx : x ∈ acc
    · rw [if_pos hx, if_pos (List.mem_append_right _ (List.mem_map.mpr ⟨x, hx, rfl⟩))]
    · rw [if_neg hx, if_neg, List.map_append, List.append_assoc]
      · rfl
      · intro z
        rcases List.mem_append.mp z with z | z
        · exact h x z
        · obtain ⟨y, hy, e⟩ := List.mem_map.mp z
          exact hx (hf y x e ▸ hy)
def ded (l : List α) : List α := dedA [] l
theorem mem_ded {l : List α} {y : α} : y ∈ ded l ↔ y ∈ l := by unfold ded; rw [mem_dedA]; simp
theorem ded_prod {γ δ : Type} (f : γ → α) (h : δ → List α) (B : List δ) (hB : B ≠ []) : ∀ (A : List γ) (done : List γ), dedA ((ded (done.map f)).flatMap fun u => (ded (B.map h)).map fun c => u :: c) (A.flatMap fun a => B.map fun b => f a :: h b) = (ded ((done ++ A).map f)).flatMap fun u => (ded (B.map h)).map fun c => u :: c
  | [], done => by rw [List.append_nil]; rfl
  | a :: A, done => by
    rw [List.flatMap_cons, dedA_app]
    have step : dedA ((ded (done.map f)).flatMap fun u => (ded (B.map h)).map fun c => u :: c) (B.map fun b => f a :: h b) = (ded ((done ++ [a]).map f)).flatMap fun u => (ded (B.map h)).map fun c => u :: c := by
      have ed : ded ((done ++ [a]).map f) = addT (ded (done.map f)) (f a) := by rw [List.map_append]; exact dedA_snoc [] (done.map f) (f a)
      rw [ed]
      by_cases hm : f a ∈ ded (done.map f)
      · have e : addT (ded (done.map f)) (f a) = ded (done.map f) := by unfold addT; rw [if_pos hm]
        rw [e]
        refine dedA_in fun x hx => ?_
        obtain ⟨b, hb, rfl⟩ := List.mem_map.mp hx
        exact List.mem_flatMap.mpr ⟨f a, hm, List.mem_map.mpr ⟨h b, mem_ded.mpr (List.mem_map.mpr ⟨b, hb, rfl⟩), rfl⟩⟩
      · have e : addT (ded (done.map f)) (f a) = ded (done.map f) ++ [f a] := by unfold addT; rw [if_neg hm]
        rw [e, List.flatMap_append, List.flatMap_cons, List.flatMap_nil, List.append_nil]
        have q := dedA_block (fun c : List α => f a :: c) (fun x y z => by injection z) (B.map h) [] ((ded (done.map f)).flatMap fun u => (ded (B.map h)).map fun c => u :: c) (fun x hx => by
          obtain ⟨u, hu, hx⟩ := List.mem_flatMap.mp hx
          obtain ⟨c, _, e2⟩ := List.mem_map.mp hx
          injection e2 with e2 _
          exact hm (e2 ▸ hu))
        rw [List.map_nil, List.append_nil, List.map_map] at q
        exact q
    rw [step, ded_prod f h B hB A (done ++ [a]), List.append_assoc]
    rfl
theorem ded_flat {γ δ : Type} (f : γ → α) (h : δ → List α) (A : List γ) (B : List δ) (hB : B ≠ []) : ded (A.flatMap fun a => B.map fun b => f a :: h b) = (ded (A.map f)).flatMap fun u => (ded (B.map h)).map fun c => u :: c := by
  have q := ded_prod f h B hB A []
  rw [List.nil_append] at q
  exact q
end
/-- the groups of a grouping, as words -/
def grpsW : List Dm → List Nat → List CellW
  | d :: ds, l :: g => (ded (d.leaves.map fun w => w.take l)).flatMap fun u => (grpsW ds g).map fun c => u :: c
  | _, _ => [[]]
theorem cells_ne : ∀ (ds : List Dm), (∀ d ∈ ds, ∃ n, d.Good n) → cellsR ds ≠ []
  | [], _ => by simp [cellsR]
  | d :: ds, h => fun e => by
    obtain ⟨n, g⟩ := h d List.mem_cons_self
    have ih := cells_ne ds fun x hx => h x (List.mem_cons_of_mem _ hx)
    have l := cellsR_len (d :: ds)
    rw [e] at l
    have l2 := cellsR_len ds
    have p : 0 < (cellsR ds).length := List.length_pos_iff.mpr ih
    have f := g.few
    have : 0 < d.leaves.length * cellsN ds := Nat.mul_pos (by omega) (by omega)
    have e3 : cellsN (d :: ds) = d.leaves.length * cellsN ds := rfl
    rw [List.length_nil] at l
    omega
/-- the groups of the cells in order, each once -/
theorem ded_cells : ∀ (ds : List Dm) (g : List Nat), (∀ d ∈ ds, ∃ n, d.Good n) → GrOk ds g → ded ((cellsR ds).map (takeG g)) = grpsW ds g
  | [], [], _, _ => rfl
  | [], _ :: _, _, h => h.elim
  | _ :: _, [], _, h => h.elim
  | d :: ds, l :: g, hd, h => by
    have ih := ded_cells ds g (fun x hx => hd x (List.mem_cons_of_mem _ hx)) h.2
    have ne := cells_ne ds fun x hx => hd x (List.mem_cons_of_mem _ hx)
    show ded ((d.leaves.flatMap fun ws => (cellsR ds).map fun c => ws :: c).map (takeG (l :: g))) = (ded (d.leaves.map fun w => w.take l)).flatMap fun u => (grpsW ds g).map fun c => u :: c
    rw [← ih, ← ded_flat (fun w : List Str => w.take l) (takeG g) d.leaves (cellsR ds) ne, List.map_flatMap]
    congr 1
    refine congrArg (fun f => List.flatMap f d.leaves) (funext fun w => ?_)
    rw [List.map_map]
    rfl
end Z

set_option Elab.async false
set_option linter.all false
set_option maxRecDepth 100000
set_option maxHeartbeats 2000000
/-! SpP2: groups by texts, their places, their cells. -/
namespace Z
open PySem PySem.Spec PyProof.Rows L2
section
variable {α β : Type} [DecidableEq α] [DecidableEq β]
theorem dedA_map (f : α → β) : ∀ (l acc : List α), (∀ x y, (x ∈ l ∨ x ∈ acc) → (y ∈ l ∨ y ∈ acc) → f x = f y → x = y) → dedA (acc.map f) (l.map f) = (dedA acc l).map f
  | [], _, _ => rfl
  | x :: l, acc, h => by
    have e : addT (acc.map f) (f x) = (addT acc x).map f := by
      unfold addT
      by_cases hx : x ∈ acc
      · rw [if_pos hx, if_pos (List.mem_map.mpr ⟨x, hx, rfl⟩)]
      · rw [if_neg hx, if_neg, List.map_append]
        · rfl
        · intro z
          obtain ⟨y, hy, e⟩ := List.mem_map.mp z
          exact hx (h y x (.inr hy) (.inl List.mem_cons_self) e ▸ hy)
    show dedA (addT (acc.map f) (f x)) (l.map f) = (dedA (addT acc x) l).map f
    rw [e]
    refine dedA_map f l (addT acc x) fun a b ha hb => ?_
    have k : ∀ z, (z ∈ l ∨ z ∈ addT acc x) → (z ∈ x :: l ∨ z ∈ acc) := fun z hz => by
      rcases hz with hz | hz
      · exact .inl (List.mem_cons_of_mem _ hz)
      · rcases mem_addT.mp hz with q | q
        · exact .inr q
        · exact .inl (by rw [q]; exact List.mem_cons_self)
    exact h a b (k a ha) (k b hb)
theorem ded_map (f : α → β) (l : List α) (h : ∀ x ∈ l, ∀ y ∈ l, f x = f y → x = y) : ded (l.map f) = (ded l).map f :=
  dedA_map f l [] fun x y hx hy => h x (hx.resolve_right fun z => by cases z) y (hy.resolve_right fun z => by cases z)
theorem dedA_nd : ∀ (l acc : List α), acc.Nodup → (dedA acc l).Nodup
  | [], _, h => h
  | x :: l, acc, h => by
    refine dedA_nd l (addT acc x) ?_
    unfold addT
    by_cases hx : x ∈ acc
    · rw [if_pos hx]; exact h
    · rw [if_neg hx, List.nodup_append]
      exact ⟨h, by simp, fun a ha b hb e => by rw [List.mem_singleton] at hb; exact hx (hb ▸ e ▸ ha)⟩
theorem idx_at : ∀ {l : List α} {i : Nat} {x : α}, l.Nodup → l[i]? = some x → l.idxOf x = i
  | [], _, _, _, e => by cases e
  | a :: l, 0, x, _, e => by
    have e' : a = x := Option.some.inj e
    subst e'
    exact List.idxOf_cons_self
  | a :: l, i + 1, x, h, e => by
    have e' : l[i]? = some x := e
    have h' := List.nodup_cons.mp h
    have ne : a ≠ x := fun z => h'.1 (by rw [z]; exact List.mem_of_getElem? e')
    rw [List.idxOf_cons, show (a == x) = false from beq_eq_false_iff_ne.mpr ne, idx_at h'.2 e']
    rfl
end
theorem memW_ded {lv : List (List Str)} {n l : Nat} (h : Lv lv n) : memW lv l = ded (lv.map fun w => w.take l) := by
  have hg : ∀ u ∈ lv.map (fun w => w.take l), GoodW u := fun u hu => by
    obtain ⟨w, hw, rfl⟩ := List.mem_map.mp hu
    exact (h.g w hw).1.take l
  have e1 : memL lv l = (ded (lv.map fun w => w.take l)).map pathS := by
    rw [← ded_map pathS (lv.map fun w => w.take l) fun x hx y hy e => path_inj (hg x hx) (hg y hy) e, List.map_map]
    rfl
  unfold memW
  rw [e1, List.map_map]
  refine (List.map_congr_left fun u hu => ?_).trans (List.map_id _)
  exact words_path (hg u (mem_ded.mp hu))
theorem grps_len {ds : List Dm} {d : Dm} {g : List Nat} {l : Nat} : (grpsW (d :: ds) (l :: g)).length = (ded (d.leaves.map fun w => w.take l)).length * (grpsW ds g).length := by
  show ((ded (d.leaves.map fun w => w.take l)).flatMap fun u => (grpsW ds g).map fun c => u :: c).length = _
  generalize ded (d.leaves.map fun w => w.take l) = A
  induction A with
  | nil => rw [List.length_nil, Nat.zero_mul]; rfl
  | cons a A ih => rw [List.flatMap_cons, List.length_append, ih, List.length_map, List.length_cons, Nat.succ_mul]; omega
theorem flat_at {α : Type} {B : List (List α)} {b : List α} {j : Nat} (hb : B[j]? = some b) : ∀ {A : List α} {i : Nat} {a : α}, A[i]? = some a → (A.flatMap fun u => B.map fun c => u :: c)[i * B.length + j]? = some (a :: b)
  | [], _, _, e => by cases e
  | x :: A, 0, a, e => by
    have e' : x = a := Option.some.inj e
    subst e'
    have hj : j < B.length := (List.getElem?_eq_some_iff.mp hb).1
    rw [List.flatMap_cons, Nat.zero_mul, Nat.zero_add, List.getElem?_append_left (by rw [List.length_map]; exact hj), List.getElem?_map, hb]
    rfl
  | x :: A, i + 1, a, e => by
    rw [List.flatMap_cons, List.getElem?_append_right (by rw [List.length_map, Nat.succ_mul]; omega), List.length_map, show (i + 1) * B.length + j - B.length = i * B.length + j by rw [Nat.succ_mul]; omega]
    exact flat_at hb e
theorem gN_at : ∀ (ds : List Dm) (g : List Nat) (n : Nat) (c : CellW), (∀ d ∈ ds, ∃ k, Lv d.leaves k) → GrOk ds g → c ∈ cellsR ds → gN ds g n c = n * (grpsW ds g).length + gN ds g 0 c ∧ (grpsW ds g)[gN ds g 0 c]? = some (takeG g c)
  | [], [], n, c, _, _, hc => by
    rw [List.mem_singleton.mp hc]
    exact ⟨by show n = n * 1 + 0; omega, rfl⟩
  | [], _ :: _, _, _, _, h, _ => h.elim
  | _ :: _, [], _, _, _, h, _ => h.elim
  | d :: ds, l :: g, n, c, hd, h, hc => by
    obtain ⟨ws, hw, hc⟩ := List.mem_flatMap.mp hc
    obtain ⟨c1, hc1, rfl⟩ := List.mem_map.mp hc
    obtain ⟨k, lv⟩ := hd d List.mem_cons_self
    have ih := fun n => gN_at ds g n c1 (fun x hx => hd x (List.mem_cons_of_mem _ hx)) h.2 hc1
    have m1 := memW_in (l := l) lv hw
    have p := posW_get m1
    have ml : (memL d.leaves l).length = (ded (d.leaves.map fun w => w.take l)).length := by rw [← memW_len lv, memW_ded lv]
    have e : ∀ n, gN (d :: ds) (l :: g) n (ws :: c1) = (n * (memL d.leaves l).length + posW (memW d.leaves l) (ws.take l)) * (grpsW ds g).length + gN ds g 0 c1 := fun n => (ih _).1
    rw [e n, e 0, grps_len, ml]
    refine ⟨?_, ?_⟩
    · rw [Nat.zero_mul, Nat.zero_add, Nat.add_mul, Nat.mul_assoc]; omega
    · rw [Nat.zero_mul, Nat.zero_add]
      rw [memW_ded lv] at p ⊢
      exact flat_at (ih 0).2 p
theorem grps_in : ∀ (ds : List Dm) (g : List Nat) (us : CellW), (∀ d ∈ ds, Lv d.leaves d.dep) → GrOk ds g → us ∈ grpsW ds g → GrpIn ds us ∧ us.map List.length = g ∧ ∀ w ∈ us, GoodW w
  | [], [], us, _, _, h => by
    rw [List.mem_singleton.mp h]
    exact ⟨trivial, rfl, fun w z => by cases z⟩
  | [], _ :: _, _, _, h, _ => h.elim
  | _ :: _, [], _, _, h, _ => h.elim
  | d :: ds, l :: g, us, hd, hg, h => by
    obtain ⟨u, hu, h⟩ := List.mem_flatMap.mp h
    obtain ⟨us1, h1, rfl⟩ := List.mem_map.mp h
    have lv := hd d List.mem_cons_self
    obtain ⟨i1, i2, i3⟩ := grps_in ds g us1 (fun x hx => hd x (List.mem_cons_of_mem _ hx)) hg.2 h1
    rw [← memW_ded lv] at hu
    obtain ⟨gu, lu⟩ := memW_good lv hg.1 hu
    refine ⟨⟨⟨l, hg.1, hu⟩, i1⟩, by rw [List.map_cons, lu, i2], fun w hw => ?_⟩
    rcases List.mem_cons.mp hw with z | z
    · rw [z]; exact gu
    · exact i3 w z
end Z

set_option Elab.async false
set_option linter.all false
set_option maxRecDepth 100000
set_option maxHeartbeats 2000000
/-! ZTupF: a tuple made at run time whose object is known (no dict): its method index, for data of any depth. -/
namespace L2
open PySem PySem.Spec PyProof.Rows
section
variable {X : Cx}
end
end L2

set_option Elab.async false
set_option linter.all false
set_option maxRecDepth 100000
set_option maxHeartbeats 2000000
/-! Law04: the law k04: groups part cells. -/
namespace L2
open PySem PySem.Spec PyProof.Rows
end L2
namespace Z
open PySem PySem.Spec PyProof.Rows L2
open Evl (Ex Ex.refl Ex.trans Ex.new ex_rd ex_l ex_t sq_of st_of fresh_back sz_of sz_lt)
namespace K04
def b__law_groups_1 (K : PySem.W.Frag) (R__law_count : Rel) (R__law_group : Rel) : TS :=
  (tSeq (tAsg (tCall (SpZ K R__law_group) [] E0 (tCons (tVar 0) (tCons (tVar 1) (tCons (tVar 3) tNil)))) (gName 4))
      (tIfS (tTest (tOp (rNotInD K) (tVar 4) (tVar 2))) (tDrop (tBM K "list" rAppend (tVar 2) (tCons (tVar 4) tNil))) tNext))
section
variable {K : PySem.W.Frag} {S : List Nat} {ρ ρ' ρ1 ρ2 : Rho} {ta tb te tl : TE} {ds es : List D} {C : Addr}
end
/-! ### _law_groups -/
section
variable {K : PySem.W.Frag} {C : Addr} {Rc Rg : Rel}
def keysW (ds : List Dm) (g : List Nat) : List (List Str) := (grpsW ds g).map fun us => us.map pathS
theorem map_path_inj : ∀ {us vs : CellW}, (∀ w ∈ us, GoodW w) → (∀ w ∈ vs, GoodW w) → us.map pathS = vs.map pathS → us = vs
  | [], [], _, _, _ => rfl
  | [], _ :: _, _, _, e => by cases e
  | _ :: _, [], _, _, e => by cases e
  | u :: us, v :: vs, h, k, e => by
    rw [List.map_cons, List.map_cons] at e
    injection e with e1 e2
    rw [path_inj (h u List.mem_cons_self) (k v List.mem_cons_self) e1, map_path_inj (fun w hw => h w (List.mem_cons_of_mem _ hw)) (fun w hw => k w (List.mem_cons_of_mem _ hw)) e2]
theorem take_goodW {ds : List Dm} (gd : GoodDs ds) (g : List Nat) {c : CellW} (hc : c ∈ cellsR ds) : ∀ w ∈ takeG g c, GoodW w := takeG_good (fun w hw => ((cell_good ds c gd.good hc).2 w hw).1)
theorem keys_ded {ds : List Dm} (gd : GoodDs ds) {g : List Nat} (h : GrOk ds g) : ded ((cellsR ds).map (pkey g)) = keysW ds g := by
  have e : (cellsR ds).map (pkey g) = ((cellsR ds).map (takeG g)).map fun us => us.map pathS := by rw [List.map_map]; rfl
  rw [e, ded_map _ _ fun x hx y hy e => ?_, ded_cells ds g gd.good h]
  · rfl
  · obtain ⟨c, hc, rfl⟩ := List.mem_map.mp hx
    obtain ⟨c', hc', rfl⟩ := List.mem_map.mp hy
    exact map_path_inj (take_goodW gd g hc) (take_goodW gd g hc') e
theorem keys_nd {ds : List Dm} (gd : GoodDs ds) {g : List Nat} (h : GrOk ds g) : (keysW ds g).Nodup := by
  rw [← keys_ded gd h]
  exact dedA_nd _ [] .nil
theorem keys_at {ds : List Dm} (gd : GoodDs ds) {g : List Nat} (h : GrOk ds g) {c : CellW} (hc : c ∈ cellsR ds) : (keysW ds g)[gC ds g c]? = some (pkey g c) := by
  unfold keysW
  rw [List.getElem?_map, show (grpsW ds g)[gC ds g c]? = some (takeG g c) from (gN_at ds g 0 c (fun d hd => ⟨_, gd.lv hd⟩) h hc).2]
  rfl
def CLgs (R : Rel) : Prop := ∀ (ds : List Dm) (g : List Nat), GoodDs ds → GrOk ds g → R ([dimsD ds, grD g].map .fr) (.own ((keysW ds g).map celT)) ([dimsD ds, grD g].map .fr)
theorem lgs_loop (hg : CGroup Rg) {ds : List Dm} (gd : GoodDs ds) {g : List Nat} (h : GrOk ds g) : ∀ (rest done : List CellW) (c3 c4 : Cell), cellsR ds = done ++ rest → ∃ c3' c4', LoopZ K [] (gName 3) (b__law_groups_1 K Rc Rg) [3] (rangeD (done.length : Int) rest.length) [.fr (dimsD ds), .fr (grD g), .own ((ded (done.map (pkey g))).map celT), c3, c4] (.nx [.fr (dimsD ds), .fr (grD g), .own ((ded ((done ++ rest).map (pkey g))).map celT), c3', c4'])
  | [], done, c3, c4, _ => ⟨c3, c4, by rw [List.append_nil]; exact .nil⟩
  | c :: rest, done, c3, c4, e => by
    obtain ⟨c3', c4', q⟩ := lgs_loop hg gd h rest (done ++ [c]) (.fr (.int (done.length : Int))) (.fr (celT (pkey g c))) (by rw [e, List.append_assoc]; rfl)
    have hc : c ∈ cellsR ds := by rw [e]; exact List.mem_append_right _ List.mem_cons_self
    have hi : (cellsR ds)[done.length]? = some c := by rw [e, List.getElem?_append_right (Nat.le_refl _), Nat.sub_self]; rfl
    have r := hg ds g done.length c gd h hi
    rw [grp_key] at r
    have ed : ded ((done ++ [c]).map (pkey g)) = addT (ded (done.map (pkey g))) (pkey g c) := by rw [List.map_append]; exact dedA_snoc [] _ _
    have oks : ∀ a ∈ ded (done.map (pkey g)), ∀ s ∈ a, StrOk s := fun a ha => by
      obtain ⟨c', hc', rfl⟩ := List.mem_map.mp (mem_ded.mp ha)
      exact key_ok gd (by rw [e]; exact List.mem_append_left _ hc')
    have hlen : (ded (done.map (pkey g))).length ≤ 48 := by
      have gl : ∀ (l acc : List (List Str)), (dedA acc l).length ≤ acc.length + l.length := by
        intro l
        induction l with
        | nil => intro acc; show acc.length ≤ acc.length + 0; omega
        | cons x l ih =>
          intro acc
          have := ih (addT acc x)
          have e2 : (addT acc x).length ≤ acc.length + 1 := by
            unfold addT
            by_cases hx : x ∈ acc
            · rw [if_pos hx]; omega
            · rw [if_neg hx, List.length_append]; exact Nat.le_refl _
          rw [List.length_cons]
          show (dedA (addT acc x) l).length ≤ _
          omega
      have g1 := gl (done.map (pkey g)) []
      have l1 := cellsR_len ds
      have l2 := gd.cells
      rw [e, List.length_append, List.length_cons] at l1
      rw [List.length_map, List.length_nil] at g1
      show (dedA [] _).length ≤ 48
      omega
    rw [List.length_cons, rangeD_cons]
    rw [List.length_append, List.append_assoc] at q
    have hx : ExZ K [] (b__law_groups_1 K Rc Rg) [.fr (dimsD ds), .fr (grD g), .own ((ded (done.map (pkey g))).map celT), .fr (.int (done.length : Int)), c4] (.nx [.fr (dimsD ds), .fr (grD g), .own ((ded ((done ++ [c]).map (pkey g))).map celT), .fr (.int (done.length : Int)), .fr (celT (pkey g c))]) := by
      have s1 := ex_set (S := []) (K := K) (ρ := [.fr (dimsD ds), .fr (grD g), .own ((ded (done.map (pkey g))).map celT), .fr (.int (done.length : Int)), c4]) (i := 4) (ev_callF (X := E0) (ds := [dimsD ds, grD g, .int (done.length : Int)]) (ag_cons (ev_var (i := 0) rfl) (ag_cons (ev_var (i := 1) rfl) (ag_cons (ev_var (i := 3) rfl) ag_nil))) r) (by decide)
      have ht := ts_test (K := K) (ev_notInX (ρ := [.fr (dimsD ds), .fr (grD g), .own ((ded (done.map (pkey g))).map celT), .fr (.int (done.length : Int)), .fr (celT (pkey g c))]) EqT.str.tup (by decide) (a := pkey g c) (as := ded (done.map (pkey g))) (key_ok gd hc) oks (ev_var (i := 4) rfl) (rd_own (i := 2) rfl))
      rw [ed]
      by_cases hm : pkey g c ∈ ded (done.map (pkey g))
      · have ea : addT (ded (done.map (pkey g))) (pkey g c) = ded (done.map (pkey g)) := by unfold addT; rw [if_pos hm]
        rw [ea]
        exact ex_seq s1 (ex_ifF (ts_is ht (by simp [hm])) ex_next)
      · have ea : addT (ded (done.map (pkey g))) (pkey g c) = ded (done.map (pkey g)) ++ [pkey g c] := by unfold addT; rw [if_neg hm]
        rw [ea, List.map_append]
        exact ex_seq s1 (ex_ifT (ts_is ht (by simp [hm])) (ex_app (i := 2) (ev_var (i := 4) rfl) rfl rfl (by rw [List.length_map]; omega)))
    exact ⟨c3', c4', .step tg_name hx q⟩
end
/-! ### the law -/
section
variable {K : PySem.W.Frag} {C : Addr} {Rsp Rag Rb Rct Rlg Rlgs Rs Rwd Rgc Rgn Rg1 Rgo Rgs Rin Rrm : Rel}
end
theorem ded_len : ∀ (l acc : List (List Str)), (dedA acc l).length ≤ acc.length + l.length := by
  intro l
  induction l with
  | nil => intro acc; show acc.length ≤ acc.length + 0; omega
  | cons x l ih =>
    intro acc
    have := ih (addT acc x)
    have e2 : (addT acc x).length ≤ acc.length + 1 := by
      unfold addT
      by_cases hx : x ∈ acc
      · rw [if_pos hx]; omega
      · rw [if_neg hx, List.length_append]; exact Nat.le_refl _
    rw [List.length_cons]
    show (dedA (addT acc x) l).length ≤ _
    omega
section
variable {K : PySem.W.Frag} {C : Addr} {Rsp Rag Rb Rct Rlg Rlgs Rs Rwd Rgc Rgn Rg1 Rgo Rgs Rin Rrm : Rel}
end
end K04
end Z

set_option Elab.async false
set_option linter.all false
set_option maxRecDepth 100000
set_option maxHeartbeats 2000000
/-! ZExc: exceptions by cells: what raises, what is called and may raise, try with one clause. -/
namespace Z
open PySem PySem.Spec PyProof.Rows L2
open Evl (Ex Ex.refl Ex.trans Ex.new ex_rd ex_l ex_t sq_of st_of fresh_back sz_of sz_lt)

/-- an exception: its class, and its own fields (none: it has no dict) -/
structure Exn where
  cls : Value
  fs : Option (List (Str × D))
def XdOk (K : PySem.W.Frag) (G : Hp) (d : Option Addr) : Option (List (Str × D)) → Prop
  | none => d = none
  | some fs => ∃ dd vs, d = some dd ∧ G dd = some (.xd vs) ∧ DzF K G vs fs
theorem XdOk.mono {K : PySem.W.Frag} {G G' : Hp} {d : Option Addr} (e : Ex G G') : ∀ {fs : Option (List (Str × D))}, XdOk K G d fs → XdOk K G' d fs
  | none, h => h
  | some fs, h => by
    obtain ⟨dd, vs, rfl, h1, h2⟩ := h
    exact ⟨dd, vs, rfl, e _ _ h1, h2.mono e⟩
def EvX (K : PySem.W.Frag) (W : WX) (te : TE) (ρ ρ' : Rho) (e : Exn) : Prop := ∀ M G H σ, Sim K M G H σ ρ → ∀ Q : VK, (∀ d G' H', Grow M G H G' H' → Sim K M G' H' σ ρ' → XdOk K G' d e.fs → W e.cls d σ H') → te σ H Q
def ExX (K : PySem.W.Frag) (S : List Nat) (W : WX) (ts : TS) (ρ ρ' : Rho) (e : Exn) : Prop := ∀ M G H σ (E : Ends), Fresh M H → Sim K M G H σ ρ → (∀ d G' H' σ', Grow M G H G' H' → Keep S σ σ' → Sim K M G' H' σ' ρ' → XdOk K G' d e.fs → W e.cls d σ' H') → ts E σ H
section
variable {K : PySem.W.Frag} {S : List Nat} {W : WX} {ρ ρ' ρ1 ρ2 : Rho} {te : TE} {tt : TT} {ts us : TS} {g : TG} {e : Exn} {ds : List D}
theorem xx_seq (h : ExZ K S ts ρ (.nx ρ1)) (k : ExX K S W us ρ1 ρ2 e) : ExX K S W (tSeq ts us) ρ ρ2 e := fun M G H σ E f s q => h M G H σ { E with nx := us E } f s fun G1 H1 σ1 g1 k1 s1 =>
  k M G1 H1 σ1 E (f.grow g1) s1 fun d G2 H2 σ2 g2 k2 s2 x => q d G2 H2 σ2 (g1.trans g2) (k1.trans k2) s2 x
theorem xx_seqX (h : ExX K S W ts ρ ρ1 e) : ExX K S W (tSeq ts us) ρ ρ1 e := fun M G H σ E f s q => h M G H σ { E with nx := us E } f s q
theorem xx_ifT (h : TsZ K tt ρ ρ1 true) (k : ExX K S W ts ρ1 ρ2 e) : ExX K S W (tIfS tt ts us) ρ ρ2 e := fun M G H σ E f s q => h M G H σ s _ fun G1 H1 g1 s1 => by
  rw [if_pos rfl]
  exact k M G1 H1 σ E (f.grow g1) s1 fun d G2 H2 σ2 g2 k2 s2 x => q d G2 H2 σ2 (g1.trans g2) k2 s2 x
theorem xx_asg (h : EvX K W te ρ ρ1 e) : ExX K S W (tAsg te g) ρ ρ1 e := fun M G H σ E f s q => h M G H σ s _ fun d G1 H1 g1 s1 x => q d G1 H1 σ g1 .refl s1 x
theorem xx_drop (h : EvX K W te ρ ρ1 e) : ExX K S W (tDrop te) ρ ρ1 e := fun M G H σ E f s q => h M G H σ s _ fun d G1 H1 g1 s1 x => q d G1 H1 σ g1 .refl s1 x
theorem xx_ret (h : EvX K W te ρ ρ1 e) : ExX K S W (tRet te) ρ ρ1 e := fun M G H σ E f s q => h M G H σ s _ fun d G1 H1 g1 s1 x => q d G1 H1 σ g1 .refl s1 x
/-- a loop in which a turn raises -/
inductive LoopX (K : PySem.W.Frag) (S : List Nat) (W : WX) (g : TG) (tb : TS) (A : List Nat) : List D → Rho → Rho → Exn → Prop
  | step {ρ ρ1 ρ2 ρ3 : Rho} {d : D} {ds : List D} {e : Exn} : TgZ K g A d ρ ρ1 → ExZ K S tb ρ1 (.nx ρ2) → LoopX K S W g tb A ds ρ2 ρ3 e → LoopX K S W g tb A (d :: ds) ρ ρ3 e
  | here {ρ ρ1 ρ2 : Rho} {d : D} {ds : List D} {e : Exn} : TgZ K g A d ρ ρ1 → ExX K S W tb ρ1 ρ2 e → LoopX K S W g tb A (d :: ds) ρ ρ2 e
end

/-! ### a def that may raise -/
abbrev RelX := List Cell → Exn → List Cell → Prop
def SpX (K : PySem.W.Frag) (R : Rel) (RX : RelX) : Sp := fun vs H Q E => SpZ K R vs H Q E ∨ ∃ M G cs e cs', Sim K M G H (vs.map some) cs ∧ RX cs e cs' ∧ ∀ d G' H', Grow M G H G' H' → Sim K M G' H' (vs.map some) cs' → XdOk K G' d e.fs → E e.cls d H'
theorem spx_len {K : PySem.W.Frag} {R : Rel} {RX : RelX} {n : Nat} (hR : ∀ cs r cs', R cs r cs' → cs.length = n) (hX : ∀ cs e cs', RX cs e cs' → cs.length = n) : ∀ vs H Q E, SpX K R RX vs H Q E → vs.length = n := fun vs H Q E h => by
  rcases h with h | ⟨M, G, cs, e, cs', s, hx, _⟩
  · exact spz_len hR vs H Q E h
  · have := s.len
    rw [List.length_map] at this
    rw [this]
    exact hX _ _ _ hx
def RelOfE (K : PySem.W.Frag) (S : List Nat) (t : XK → TS) (n m : Nat) : Rel := fun cs r cs' => cs.length = m ∧ ∃ ρ', ((∀ E, ExZ K S (t E) (cs ++ List.replicate (n - m) .no) (.rt ρ' r)) ∨ (r = .fr .non ∧ ∀ E, ExZ K S (t E) (cs ++ List.replicate (n - m) .no) (.nx ρ'))) ∧ FinZ S cs cs' ρ' r
abbrev wOf (E : XK) : WX := fun cls d _ H => E cls d H
def RelOfX (K : PySem.W.Frag) (S : List Nat) (t : XK → TS) (n m : Nat) : RelX := fun cs e cs' => cs.length = m ∧ ∃ ρ', (∀ E : XK, ExX K S (wOf E) (t E) (cs ++ List.replicate (n - m) .no) ρ' e) ∧ FinZ S cs cs' ρ' (.fr .non)
section
variable {K : PySem.W.Frag}
theorem body_zx {N : List Str} {vs : List V} {H : Hp} {Q : VK} {E : XK} {R : Rel} {RX : RelX} {t : XK → TS} (S : List Nat) (h : SpX K R RX vs H Q E)
    (hb : ∀ cs r cs', R cs r cs' → ∃ ρ', (ExZ K S (t E) (cs ++ List.replicate (N.length - cs.length) .no) (.rt ρ' r) ∨ (r = .fr .non ∧ ExZ K S (t E) (cs ++ List.replicate (N.length - cs.length) .no) (.nx ρ'))) ∧ FinZ S cs cs' ρ' r)
    (hx : ∀ cs e cs', RX cs e cs' → ∃ ρ', ExX K S (wOf E) (t E) (cs ++ List.replicate (N.length - cs.length) .no) ρ' e ∧ FinZ S cs cs' ρ' (.fr .non)) : t E { nx := fun _ H' => Q .non H', rt := Q } (L2.start N vs) H := by
  rcases h with h | ⟨M0, G, cs, e, cs', s, hR, q⟩
  · exact body_z S h hb
  · obtain ⟨ρ', hx, fin⟩ := hx cs e cs' hR
    have el : vs.length = cs.length := by have := s.len; rw [List.length_map] at this; exact this
    have st : Sim K (fun a => M0 a ∨ H a = none) G H (L2.start N vs) (cs ++ List.replicate (N.length - cs.length) .no) := by
      unfold L2.start
      rw [el]
      exact sim_start (s.chM fun p _ m => .inl m) _
    refine hx _ G H _ _ (fun a e => .inr e) st fun d G' H' σ' g k s' x => ?_
    have g0 : Grow M0 G H G' H' := g.wk fun a e z => by
      rcases z with z | z
      · exact z
      · exact absurd z e
    have back : ∀ (i : Nat) (ds : MO), cs'[i]? = some (.mu ds) → σ'[i]? = (vs.map some)[i]? ∧ ρ'[i]? = some (.mu ds) := fun i ds h1 => by
      obtain ⟨a, b, es, c⟩ := fin.own i ds h1
      have hi : i < vs.length := by rw [el]; exact (List.getElem?_eq_some_iff.mp c).1
      refine ⟨(k i a).trans ?_, b⟩
      unfold L2.start
      rw [List.getElem?_append_left (by rw [List.length_map]; exact hi)]
    refine q d G' H' g0 ⟨by rw [fin.len]; exact s.len, s'.sub, fun {i d} h1 => ?_, fun {i ds} h1 => ?_, fun {i j ds es p} ne h1 h2 h3 h4 => ?_⟩ x
    · obtain ⟨w, e1, e2⟩ := s.fr (fin.fr i d h1)
      exact ⟨w, e1, e2.mono g.g⟩
    · obtain ⟨a, b⟩ := back i ds h1
      obtain ⟨_, _, es, c⟩ := fin.own i ds h1
      obtain ⟨p, us, e1, m1, g1, h2, dd⟩ := s'.mu b
      obtain ⟨p0, us0, e0, m0, _⟩ := s.mu c
      rw [a, e0] at e1
      cases e1
      exact ⟨p, us, e0, m0, g1, h2, dd⟩
    · obtain ⟨a1, b1⟩ := back i ds h1
      obtain ⟨a2, b2⟩ := back j es h2
      exact s'.apart ne b1 b2 (a1.trans h3) (a2.trans h4)
end
/-- a def, a method that may raise -/
structure Zdex (P : Program) (w : World) (K : PySem.W.Frag) (mg : Str → Option Value) (base : Heap) (k : Nat) (x : Str) (ps : List Str) (R : Rel) (RX : RelX) : Prop where
  ex : ∃ (f : Addr) (fd : FuncData), FnOk P w K mg base (L2N.CX P w) k f fd ps (SpX K R RX) ∧ mg x = some (.ref f) ∧ PySem.W.keepIn K (.ref f) = true ∧ Binds K fd ps [] ∧ ∃ (oc : Value) (od : Option Addr) (osl : Array (Option Value)), K.lookup f = some ⟨oc, od, .func fd, osl⟩
structure Zmex (P : Program) (w : World) (K : PySem.W.Frag) (mg : Str → Option Value) (base : Heap) (k : Nat) (C : Addr) (m : Str) (ps : List Str) (R : Rel) (RX : RelX) : Prop where
  ex : ∃ (f : Addr) (fd : FuncData), FnOk P w K mg base (L2N.CX P w) k f fd ps (SpX K R RX) ∧ Meth K C m f ∧ Binds K fd ps [] ∧ ∃ (oc : Value) (od : Option Addr) (osl : Array (Option Value)), K.lookup f = some ⟨oc, od, .func fd, osl⟩
structure Zmax (P : Program) (w : World) (K : PySem.W.Frag) (mg : Str → Option Value) (base : Heap) (k : Nat) (x : Str) (C : Addr) (ps : List Str) (R : Rel) (RX : RelX) : Prop where
  ex : ∃ (f : Addr) (fd : FuncData), FnOk P w K mg base (L2N.CX P w) k f fd ps (SpX K R RX) ∧ Mk K C f ∧ mg x = some (.ref C) ∧ Binds K fd ps []
section
variable {P : Program} {w : World} {K : PySem.W.Frag} {mg : Str → Option Value} {base : Heap} {x m qual : Str} {st : Stmt} {f C : Addr} {fd : FuncData} {N ps : List Str} {k n l : Nat} {t : XK → TS} {S : List Nat}
theorem fn_zx (F : Fun K x qual st f fd) (Sc : FnScope N ps (defScope st)) (hn : N.length = n) (hp : ps.length = l)
    (h : ∀ (cdv : Value) (A : Around) (outer : List Env) (s : Shared) (H : Hp) (E : XK), Room k (A.deeper (envOfC qual (defScope st) s.heap.objs.size f cdv)) → PSs (cxOf (L2N.CX P w) P w K mg base N qual (defScope st) f cdv A outer s H E) (defBody st) (t E)) :
    FnOk P w K mg base (L2N.CX P w) (k + 1) f fd ps (SpX K (RelOfE K S t n l) (RelOfX K S t n l)) := by
  subst hn
  subst hp
  obtain ⟨oc, od, kV, doc, pm, an, cdv, ct, osl, rfl, lk, hcd⟩ := F.ex
  refine fn_of lk hcd Sc (spx_len (fun _ _ _ h => h.1) fun _ _ _ h => h.1) fun A outer s H vs Q E hr hsp => ⟨t E, h cdv A outer s H E hr, body_zx S hsp (fun cs r cs' hR => ?_) fun cs e cs' hR => ?_⟩
  · obtain ⟨hl, ρ', h1, h2⟩ := hR
    rw [hl]
    refine ⟨ρ', ?_, h2⟩
    rcases h1 with h1 | ⟨h1, h3⟩
    · exact .inl (h1 E)
    · exact .inr ⟨h1, h3 E⟩
  · obtain ⟨hl, ρ', h1, h2⟩ := hR
    rw [hl]
    exact ⟨ρ', h1 E, h2⟩
theorem def_zx (F : Fun K x qual st f fd) (hm : mg x = some (.ref f)) (Sc : FnScope N ps (defScope st)) (hn : N.length = n) (hp : ps.length = l) (b : Binds K fd ps [])
    (h : ∀ (cdv : Value) (A : Around) (outer : List Env) (s : Shared) (H : Hp) (E : XK), Room k (A.deeper (envOfC qual (defScope st) s.heap.objs.size f cdv)) → PSs (cxOf (L2N.CX P w) P w K mg base N qual (defScope st) f cdv A outer s H E) (defBody st) (t E)) :
    Zdex P w K mg base (k + 1) x ps (RelOfE K S t n l) (RelOfX K S t n l) := ⟨f, fd, fn_zx F Sc hn hp h, hm, F.kp, b, Fun.look F⟩
theorem met_zx (F : Fun K x qual st f fd) (hm : Meth K C m f) (Sc : FnScope N ps (defScope st)) (hn : N.length = n) (hp : ps.length = l) (b : Binds K fd ps [])
    (h : ∀ (cdv : Value) (A : Around) (outer : List Env) (s : Shared) (H : Hp) (E : XK), Room k (A.deeper (envOfC qual (defScope st) s.heap.objs.size f cdv)) → PSs (cxOf (L2N.CX P w) P w K mg base N qual (defScope st) f cdv A outer s H E) (defBody st) (t E)) :
    Zmex P w K mg base (k + 1) C m ps (RelOfE K S t n l) (RelOfX K S t n l) := ⟨f, fd, fn_zx F Sc hn hp h, hm, b, Fun.look F⟩
end
/-! ### such a def called -/
section
variable {X : Cx} {k j : Nat} {x m : Str} {C : Addr} {ps : List Str} {R : Rel} {RX : RelX} {o e : Expr} {es : List Expr} {p pos apos : Pos} {to : TE} {t : TA} {W : WX}
abbrev tMethX (C : Addr) (m : Str) (sp : Sp) (W : WX) (ta : TE) (t : TA) : TE := L2H.tMethH C m sp (WE W) ta t
theorem pe_methX {pl : Sem Bool} (G : Zmex X.prog X.w X.K X.mg X.base k C m ps R RX) (c : Cls X.K C) (hr : Room j X.A) (hk : k ≤ j) (tk : L2N.Takes X W) (ho : PE X o to) (ha : PA X (e :: es) t)
    (hst : starEach (e :: es) X.env = (false, eval e X.env) :: starEach es X.env := by rfl) (hpl : (backTo pos (starEach es X.env)).any (·.1) = false := by rfl)
    (ht : eval (.Call (.Attribute o m apos) (e :: es) [] pos) X.env = (do
      let ov ← eval o X.env
      standAt apos.atName
      let (f, first) ← holding [ov] (getMethod ov m pl)
      callWith pos f first (backTo pos (starEach (e :: es) X.env)) (backToKw pos (keywordEach [] X.env))) := by rfl) :
    PE X (.Call (.Attribute o m apos) (e :: es) [] pos) (tMethX C m (SpX X.K R RX) W to t) := by
  obtain ⟨f, fd, F, hm, hb, _⟩ := G.ex
  refine ⟨fun pins s σ H Q I h => PySem.W.methodCall_KW (pl := pl) (thn (ho.run pins s σ H _ I h) fun u s1 w1 => ?_) ht⟩
  obtain ⟨y, H1, I1, ry, a, dx, fs, ey, ea, hl, q⟩ := w1
  subst ey
  obtain rfl : u = Value.ref a := ry
  refine getmeth_ok I1 ea c hm hl (PySem.W.callWith_K (first := [.ref a]) (h₀ := X.base) I.ok.mod.kin hm.kp (thn (ha.run pos pins s1 σ H1 _ I1 q) fun us s2 w2 => ?_) hst hpl)
  obtain ⟨vs, H2, I2, rv, q2⟩ := w2
  exact ⟨I2.kIn, run_fnS (us := .ref a :: us) (vs := .ref a :: vs) F (hr.mono hk) hb (L2N.passAt tk σ) I2 (.cons rfl rv) q2⟩
end
section
variable {K : PySem.W.Frag} {W : WX} {R : Rel} {RX : RelX} {ρ ρ1 ρ2 : Rho} {ta : TE} {tx : TA} {ds : List D} {d : D} {e : Exn} {E : L2.St → XK}
theorem dzF_lookup {G : Hp} {m : Str} : ∀ {xs : List (Str × V)} {fs : List (Str × D)}, DzF K G xs fs → fs.lookup m = none → xs.lookup m = none
  | _, _, .nil, _ => rfl
  | _, _, .cons (k := k) _ hs, h => by
    rw [List.lookup] at h ⊢
    cases e : m == k with
    | true => rw [e] at h; cases h
    | false => rw [e] at h; exact dzF_lookup hs h
theorem ev_methXF {C : Addr} {m : Str} {fs : List (Str × D)} (ho : EvZ K ta ρ ρ1 (.ins C fs)) (hl : fs.lookup m = none) (h : AgZ K tx ρ1 ρ2 ds) (hR : R ((.ins C fs :: ds).map .fr) (.fr d) ((.ins C fs :: ds).map .fr)) : EvZ K (tMethX C m (SpX K R RX) W ta tx) ρ ρ2 d := fun M G H σ S Q q =>
  ho M G H σ S _ fun v G1 H1 g1 s1 dv => by
    obtain ⟨a, dx, xs, rfl, ha, hf⟩ := dv.ins_inv
    refine ⟨a, dx, xs, rfl, s1.sub _ _ ha, dzF_lookup hf hl, h M G1 H1 σ s1 _ fun vs G2 H2 g2 s2 dvs => .inl ?_⟩
    exact ⟨fun _ => False, G2, (.ins C fs :: ds).map .fr, .fr d, (.ins C fs :: ds).map .fr, sim_args (.cons ((Dz.ins ha hf).mono g2.g) dvs) s2.sub, hR, fun v G' H' g s r => q v G' H' ((g1.trans g2).trans (g.wk fun _ _ z => z.elim)) (s2.after g s.sub) r⟩
theorem ex_methX {C : Addr} {m : Str} {fs : List (Str × D)} (ho : EvZ K ta ρ ρ1 (.ins C fs)) (hl : fs.lookup m = none) (h : AgZ K tx ρ1 ρ2 ds) (hR : RX ((.ins C fs :: ds).map .fr) e ((.ins C fs :: ds).map .fr)) : EvX K W (tMethX C m (SpX K R RX) W ta tx) ρ ρ2 e := fun M G H σ S Q q =>
  ho M G H σ S _ fun v G1 H1 g1 s1 dv => by
    obtain ⟨a, dx, xs, rfl, ha, hf⟩ := dv.ins_inv
    refine ⟨a, dx, xs, rfl, s1.sub _ _ ha, dzF_lookup hf hl, h M G1 H1 σ s1 _ fun vs G2 H2 g2 s2 dvs => .inr ?_⟩
    exact ⟨fun _ => False, G2, (.ins C fs :: ds).map .fr, e, (.ins C fs :: ds).map .fr, sim_args (.cons ((Dz.ins ha hf).mono g2.g) dvs) s2.sub, hR, fun d G' H' g s r => q d G' H' ((g1.trans g2).trans (g.wk fun _ _ z => z.elim)) (s2.after g s.sub) r⟩
end
/-! ### what raises: C() -/
structure XCls (K : PySem.W.Frag) (C : Addr) : Prop where
  q : PySem.W.excIn K C [.type "ValueError", .type "Exception", .type "BaseException", .type "object"] "ValueError.__new__" = true
  kC : PySem.W.keepIn K (.ref C) = true
  sb : PySem.W.subIn K (.ref C) (.type "BaseException") = some true
  ty : PySem.W.typeIn K (.ref C) = some (.type "type")
/-! ### try .. except c as n -/
def tTry (K : PySem.W.Frag) (c : Value) (i : Nat) (ts : Addr → Value → Option Addr → TS) (Wout : WX) (tb : WX → TS) : TS := fun Dn σ H => tb (wAs K c i ts Wout Dn) Dn σ H
def Out.wipe (i : Nat) : Out → Out
  | .nx ρ => .nx (ρ.set i .no)
  | .bk ρ => .bk (ρ.set i .no)
  | .ct ρ => .ct (ρ.set i .no)
  | .rt ρ c => .rt ρ c
/-- a suite: slot i holds the exception, at a -/
def SuZ (K : PySem.W.Frag) (S : List Nat) (i : Nat) (a : Addr) (d : Option Addr) (fs : Option (List (Str × D))) (ts : TS) (ρ : Rho) (o : Out) : Prop := ∀ M G H σ (E : Ends), Fresh M H → Sim K M G H σ ρ → σ[i]? = some (some (.ref a)) → XdOk K G d fs → PostZ K (i :: S) M G H σ E o → ts E σ H
def TsE (K : PySem.W.Frag) (i : Nat) (a : Addr) (d : Option Addr) (fs : Option (List (Str × D))) (tt : TT) (ρ : Rho) (b : Bool) : Prop := ∀ M G H σ, Sim K M G H σ ρ → σ[i]? = some (some (.ref a)) → XdOk K G d fs → ∀ Q : Bool → Hp → Prop, (∀ G' H', Grow M G H G' H' → Sim K M G' H' σ ρ → Q b H') → tt σ H Q
section
variable {K : PySem.W.Frag} {S : List Nat} {i : Nat} {a : Addr} {d : Option Addr} {fs : Option (List (Str × D))} {ts us : TS} {tt tu : TT} {ρ ρ1 ρ2 : Rho} {o : Out} {b c : Bool}
theorem su_of (h : ExZ K (i :: S) ts ρ o) : SuZ K S i a d fs ts ρ o := fun M G H σ E f s _ _ q => h M G H σ E f s q
theorem su_seq (h : ExZ K (i :: S) ts ρ (.nx ρ1)) (k : SuZ K S i a d fs us ρ1 o) : SuZ K S i a d fs (tSeq ts us) ρ o := fun M G H σ E f s e x q => h M G H σ { E with nx := us E } f s fun G1 H1 σ1 g1 k1 s1 =>
  k M G1 H1 σ1 E (f.grow g1) s1 ((k1 i List.mem_cons_self).trans e) (x.mono g1.g) (q.go g1 k1)
theorem su_ifF (h : TsE K i a d fs tt ρ false) (k : SuZ K S i a d fs us ρ o) : SuZ K S i a d fs (tIfS tt ts us) ρ o := fun M G H σ E f s e x q => h M G H σ s e x _ fun G1 H1 g1 s1 => by
  rw [if_neg Bool.false_ne_true]
  exact k M G1 H1 σ E (f.grow g1) s1 e (x.mono g1.g) (q.go g1 .refl)
theorem te_not (h : TsE K i a d fs tt ρ b) : TsE K i a d fs (tNot tt) ρ (!b) := fun M G H σ s e x Q q => h M G H σ s e x _ fun G1 H1 g1 s1 => q G1 H1 g1 s1
theorem te_or (h : TsE K i a d fs tt ρ b) (k : b = false → TsE K i a d fs tu ρ c) : TsE K i a d fs (tOr tt tu) ρ (b || c) := by
  cases b with
  | true => exact fun M G H σ s e x Q q => h M G H σ s e x _ fun G1 H1 g1 s1 => q G1 H1 g1 s1
  | false =>
    exact fun M G H σ s e x Q q => h M G H σ s e x _ fun G1 H1 g1 s1 => by
      rw [if_neg Bool.false_ne_true]
      exact k rfl M G1 H1 σ s1 e (x.mono g1.g) _ fun G2 H2 g2 s2 => q G2 H2 (g1.trans g2) s2
theorem Sim.setN {M : MS} {G H : Hp} {σ : L2.St} {v : Option V} (s : Sim K M G H σ ρ) : Sim K M G H (σ.set i v) (ρ.set i .no) where
  len := by rw [List.length_set, List.length_set]; exact s.len
  sub := s.sub
  fr {j d} h := by
    rcases get_set h with ⟨_, z, _⟩ | ⟨ne, h⟩
    · cases z
    · obtain ⟨v, e1, e2⟩ := s.fr h
      exact ⟨v, by rw [List.getElem?_set_ne ne]; exact e1, e2⟩
  mu {j m} h := by
    rcases get_set h with ⟨_, z, _⟩ | ⟨ne, h⟩
    · cases z
    · obtain ⟨p, o, e1, r⟩ := s.mu h
      exact ⟨p, o, by rw [List.getElem?_set_ne ne]; exact e1, r⟩
  apart {j k m n p} ne h1 h2 h3 h4 := by
    rcases get_set h1 with ⟨_, z, _⟩ | ⟨n1, h1⟩
    · cases z
    · rcases get_set h2 with ⟨_, z, _⟩ | ⟨n2, h2⟩
      · cases z
      · rw [List.getElem?_set_ne n1] at h3
        rw [List.getElem?_set_ne n2] at h4
        exact s.apart ne h1 h2 h3 h4
theorem ex_tryN {cv : Value} {tsu : Addr → Value → Option Addr → TS} {Wout : WX} {tb : WX → TS} (h : ∀ W, ExZ K S (tb W) ρ o) : ExZ K S (tTry K cv i tsu Wout tb) ρ o := fun M G H σ E f s q => h _ M G H σ E f s q
theorem ex_tryX {cv : Value} {tsu : Addr → Value → Option Addr → TS} {Wout : WX} {tb : WX → TS} {e : Exn} (h : ∀ W, ExX K S W (tb W) ρ ρ1 e) (hm : PySem.W.exmOne K e.cls cv = some true) (hi : i ∉ S) (hl : i < ρ1.length)
    (hs : ∀ a d, SuZ K S i a d e.fs (tsu a e.cls d) (ρ1.set i .no) o) : ExZ K S (tTry K cv i tsu Wout tb) ρ (o.wipe i) := fun M G H σ E f s q => by
  refine h _ M G H σ E f s fun d G1 H1 σ1 g1 k1 s1 x => ⟨true, hm, fun _ a ha => ?_, fun z => by cases z⟩
  have hl' : i < σ1.length := by rw [s1.len]; exact hl
  have kp : ∀ {σ' : L2.St} {v : Option V}, Keep (i :: S) (σ1.set i (some (.ref a))) σ' → Keep S σ (σ'.set i v) := fun {σ' v} k j hj => by
    have ne : i ≠ j := fun z => by subst z; exact hi hj
    rw [List.getElem?_set_ne ne, k j (List.mem_cons_of_mem _ hj), List.getElem?_set_ne ne]
    exact k1 j hj
  have kp2 : ∀ {σ' : L2.St}, Keep (i :: S) (σ1.set i (some (.ref a))) σ' → Keep S σ σ' := fun {σ'} k j hj => by
    have ne : i ≠ j := fun z => by subst z; exact hi hj
    rw [k j (List.mem_cons_of_mem _ hj), List.getElem?_set_ne ne]
    exact k1 j hj
  refine hs a d M G1 H1 _ _ (f.grow g1) (Sim.setN s1) (by rw [List.getElem?_set_self hl']) x ?_
  cases o with
  | nx ρ2 => exact fun G' H' σ' g k s' => q G' H' _ (g1.trans g) (kp k) (Sim.setN s')
  | bk ρ2 => exact fun G' H' σ' g k s' => q G' H' _ (g1.trans g) (kp k) (Sim.setN s')
  | ct ρ2 => exact fun G' H' σ' g k s' => q G' H' _ (g1.trans g) (kp k) (Sim.setN s')
  | rt ρ2 cl => exact fun v G' H' σ' g k s' r => q v G' H' σ' (g1.trans g) (kp2 k) s' r
/-- isinstance(e, C) in a suite, e without own fields -/
def rIsG (K : PySem.W.Frag) (Dc : Addr) (a : Addr) (cls : Value) (d : Option Addr) : List V → Hp → VK → Prop := fun xs H Q => cls = .ref Dc ∧ d = none ∧ rIsE K Dc a xs H Q
theorem te_isG {Dc C : Addr} (hk : PySem.W.kitOne K (.ref Dc) (.ref C) = some b) : TsE K i a d none (tB (tCB (rIsG K Dc a (.ref Dc) d) (tCons (tVar i) (tCons (tC (.ref C)) tNil)))) ρ b := fun M G H σ s e x Q q =>
  ⟨.ref a, e, ⟨rfl, x, .ref C, .ref C, b, rfl, fun u r => r, hk, b, rfl, q G H .refl s⟩⟩
end
end Z

set_option Elab.async false
set_option linter.all false
set_option maxRecDepth 100000
set_option maxHeartbeats 2000000
/-! Law01: the law k01: cells and coordinates. -/
namespace Z
open PySem PySem.Spec PyProof.Rows L2
open Evl (Ex Ex.refl Ex.trans Ex.new ex_rd ex_l ex_t sq_of st_of fresh_back sz_of sz_lt)
section
variable {K : PySem.W.Frag} {ρ ρ' ρ1 ρ2 : Rho} {te ta tb tl : TE} {d : D}
def cutL {α : Type} (xs : List α) (lo hi : Option Int) : List α := (xs.drop (HT.sIx xs.length 0 lo)).take (HT.sIx xs.length xs.length hi - HT.sIx xs.length 0 lo)
theorem cut_map {α : Type} (f : α → D) (xs : List α) (lo hi : Option Int) : cutD (xs.map f) lo hi = (cutL xs lo hi).map f := by
  unfold cutD cutL
  rw [List.length_map, List.map_take, List.map_drop]
theorem cut_mem {α : Type} {xs : List α} {lo hi : Option Int} : ∀ x ∈ cutL xs lo hi, x ∈ xs := fun x h => List.mem_of_mem_drop (List.mem_of_mem_take h)
theorem cut_len {α : Type} {xs : List α} {lo hi : Option Int} : (cutL xs lo hi).length ≤ xs.length := by
  unfold cutL
  rw [List.length_take, List.length_drop]
  omega
end
namespace K01
def y_law_1 (K : PySem.W.Frag) (R_Space : Rel) (R_Space_cell : Rel) (R_Space_coordinates : Rel) (R_Space_parts : Rel) (Rx_Space_cell : Rel) (RX_Space_cell : RelX) (R__law_a_path : Rel) (R__law_box : Rel) (R__law_cells : Rel) (R__law_draw : Rel) (R__law_parts : Rel) (R__law_same : Rel) (R__law_wide : Rel) (C_CubeError : Addr) (C_NoSuchCell : Addr) (C_NoSuchName : Addr) (C_Space : Addr) (W : WX) : TS :=
  (tAsg (tMethX C_Space "cell" (SpX K Rx_Space_cell RX_Space_cell) W (tVar 2) (tCons (tVar 7) tNil)) (gName 12))
def u_law_1 (K : PySem.W.Frag) (R_Space : Rel) (R_Space_cell : Rel) (R_Space_coordinates : Rel) (R_Space_parts : Rel) (Rx_Space_cell : Rel) (RX_Space_cell : RelX) (R__law_a_path : Rel) (R__law_box : Rel) (R__law_cells : Rel) (R__law_draw : Rel) (R__law_parts : Rel) (R__law_same : Rel) (R__law_wide : Rel) (C_CubeError : Addr) (C_NoSuchCell : Addr) (C_NoSuchName : Addr) (C_Space : Addr) (a : Addr) (cls : Value) (d : Option Addr) : TS :=
  (tSeq (tAsg (tC (.bl true)) (gName 11))
      (tIfS (tOr (tNot (tB (tCB (rIsG K C_NoSuchCell a cls d) (tCons (tVar 13) (tCons (tC (.ref C_NoSuchCell)) tNil))))) (tB (tCB (rIsG K C_NoSuchCell a cls d) (tCons (tVar 13) (tCons (tC (.ref C_NoSuchName)) tNil))))) (tRet (tC (.bl false))) tNext))
def b_law_2 (K : PySem.W.Frag) (R_Space : Rel) (R_Space_cell : Rel) (R_Space_coordinates : Rel) (R_Space_parts : Rel) (Rx_Space_cell : Rel) (RX_Space_cell : RelX) (R__law_a_path : Rel) (R__law_box : Rel) (R__law_cells : Rel) (R__law_draw : Rel) (R__law_parts : Rel) (R__law_same : Rel) (R__law_wide : Rel) (C_CubeError : Addr) (C_NoSuchCell : Addr) (C_NoSuchName : Addr) (C_Space : Addr) : TS :=
  (tSeq (tAsg (tCB (rLstOf K) (tCons (tOp (rIx K) (tVar 3) (tCall (SpZ K R__law_draw) [] E0 (tCons (tVar 5) (tCons (tCB (rLenX K) (tCons (tVar 3) tNil)) tNil)))) tNil)) (gName 7))
      (tSeq (tAsg (tCall (SpZ K R__law_draw) [] E0 (tCons (tVar 5) (tCons (tCB (rLenX K) (tCons (tVar 7) tNil)) tNil))) (gName 8))
      (tSeq (tAsg (tCall (SpZ K R__law_draw) [] E0 (tCons (tVar 5) (tCons (tC (.int 4)) tNil))) (gName 9))
      (tSeq (tAsg (tCall (SpZ K R__law_a_path) [] E0 (tCons (tVar 5) (tCons (tVar 1) tNil))) (gName 10))
      (tSeq (tIfS (tTest (tOp rEq (tVar 9) (tC (.int 0)))) (tAsg (tOp rCat (tSl (rSlL K) (tVar 7) tNoPart (tPart (tVar 8))) (tSl (rSlL K) (tVar 7) (tPart (tOp rAddI (tVar 8) (tC (.int 1)))) tNoPart)) (gName 7)) (tIfS (tTest (tOp rEq (tVar 9) (tC (.int 1)))) (tAsg (tOp rCat (tOp rCat (tSl (rSlL K) (tVar 7) tNoPart (tPart (tVar 8))) (tLst (tCons (tVar 10) tNil))) (tSl (rSlL K) (tVar 7) (tPart (tVar 8)) tNoPart)) (gName 7)) (tAsg (tVar 10) (gSub (tVar 7) (tVar 8) rSetL))))
      (tSeq (tAsg (tCB (rTupOf K) (tCons (tVar 7) tNil)) (gName 7))
      (tSeq (tAsg (tC (.bl false)) (gName 11))
      (tSeq (tAsg (tC (.int 0)) (gName 12))
      (tSeq (tTry K (.ref C_CubeError) 13 (fun a cls d => u_law_1 K R_Space R_Space_cell R_Space_coordinates R_Space_parts Rx_Space_cell RX_Space_cell R__law_a_path R__law_box R__law_cells R__law_draw R__law_parts R__law_same R__law_wide C_CubeError C_NoSuchCell C_NoSuchName C_Space a cls d) (fun _ _ _ _ => False) (fun W => y_law_1 K R_Space R_Space_cell R_Space_coordinates R_Space_parts Rx_Space_cell RX_Space_cell R__law_a_path R__law_box R__law_cells R__law_draw R__law_parts R__law_same R__law_wide C_CubeError C_NoSuchCell C_NoSuchName C_Space W))
      (tIfS (tOr (tTest (tOp rNe (tVar 11) (tOp (rNotInD K) (tVar 7) (tVar 3)))) (tAnd (tNot (tTruth K (tVar 11))) (tTest (tOp rNe (tVar 12) (tBM K "list" (rIndexD K) (tVar 3) (tCons (tVar 7) tNil)))))) (tRet (tC (.bl false))) tNext))))))))))
def b_law_3 (K : PySem.W.Frag) (R_Space : Rel) (R_Space_cell : Rel) (R_Space_coordinates : Rel) (R_Space_parts : Rel) (Rx_Space_cell : Rel) (RX_Space_cell : RelX) (R__law_a_path : Rel) (R__law_box : Rel) (R__law_cells : Rel) (R__law_draw : Rel) (R__law_parts : Rel) (R__law_same : Rel) (R__law_wide : Rel) (C_CubeError : Addr) (C_NoSuchCell : Addr) (C_NoSuchName : Addr) (C_Space : Addr) : TS :=
  (tSeq (tIfS (tNot (tB (tCall (SpZ K R__law_same) [] E0 (tCons (tMeth C_Space "parts" (SpZ K R_Space_parts) [] E0 (tVar 2) (tCons (tVar 4) tNil)) (tCons (tCB (rTupOf K) (tCons (tCall (SpZ K R__law_parts) [] E0 (tCons (tVar 1) (tCons (tVar 4) tNil))) tNil)) tNil))))) (tRet (tC (.bl false))) tNext)
      (tIfS (tOr (tNot (tB (tCall (SpZ K R__law_same) [] E0 (tCons (tMeth C_Space "coordinates" (SpZ K R_Space_coordinates) [] E0 (tVar 2) (tCons (tVar 4) tNil)) (tCons (tOp (rIx K) (tVar 3) (tVar 4)) tNil))))) (tNot (tB (tCall (SpZ K R__law_same) [] E0 (tCons (tMeth C_Space "cell" (SpZ K R_Space_cell) [] E0 (tVar 2) (tCons (tOp (rIx K) (tVar 3) (tVar 4)) tNil)) (tCons (tVar 4) tNil)))))) (tRet (tC (.bl false))) tNext))
end K01
/-! ### cells as rows of numbers -/
section
variable {K : PySem.W.Frag} {C : Addr}
/-! ### the program's cells -/
def CCelX (C Ce : Addr) (R : Rel) (RX : RelX) : Prop := ∀ (ds : List Dm) (c : List Str), GoodDs ds → (∀ k : Nat, (celS ds)[k]? = some c → R ([spD C ds, celT c].map .fr) (.fr (.int (k : Int))) ([spD C ds, celT c].map .fr)) ∧ (c ∉ celS ds → RX ([spD C ds, celT c].map .fr) ⟨.ref Ce, none⟩ ([spD C ds, celT c].map .fr))
/-! ### the law's cells -/
end
end Z

set_option Elab.async false
set_option linter.all false
set_option maxRecDepth 100000
set_option maxHeartbeats 2000000
/-! Law01b: the law k01: strange coordinates, the law. -/
namespace Z
open PySem PySem.Spec PyProof.Rows L2
open Evl (Ex Ex.refl Ex.trans Ex.new ex_rd ex_l ex_t sq_of st_of fresh_back sz_of sz_lt)
section
variable {K : PySem.W.Frag} {C : Addr}
def CPath (R : Rel) : Prop := ∀ (b : List D) (ds : List Dm), GoodBox b → GoodDs ds → ∃ (p : Str) (b' : List D), GoodBox b' ∧ (StrOk p ∧ p.length ≤ 200) ∧ R (.own b :: [dimsD ds].map .fr) (.fr (.str p)) (.own b' :: [dimsD ds].map .fr)
end
end Z

set_option Elab.async false
set_option linter.all false
set_option maxRecDepth 100000
set_option maxHeartbeats 2000000
/-! LawX: dimensions and vectors of laws with fractions. -/
namespace Z
open PySem PySem.Spec PyProof.Rows L2
open Evl (Ex Ex.refl Ex.trans Ex.new ex_rd ex_l ex_t sq_of st_of fresh_back sz_of sz_lt)
namespace K22
section
variable {K : PySem.W.Frag} {Rb Rd Rl Rw : Rel}
/-! ### _law_dimensions -/
/-! ### _law_a_fraction, _law_a_vector -/
end
end K22
end Z

set_option Elab.async false
set_option linter.all false
set_option maxRecDepth 100000
set_option maxHeartbeats 2000000
/-! Law22: the law k22: projections of a vector onto a grouping. -/
namespace Z
open PySem PySem.Spec PyProof.Rows L2
open Evl (Ex Ex.refl Ex.trans Ex.new ex_rd ex_l ex_t sq_of st_of fresh_back sz_of sz_lt)
namespace K22
section
variable {K : PySem.W.Frag} {Rsp Rag Rav Rb Rwd Rme Rs Rpr : Rel} {C : Addr}
end
end K22
end Z

set_option Elab.async false
set_option linter.all false
set_option maxRecDepth 100000
set_option maxHeartbeats 2000000
/-! LawY: a projection of a projection is the projection onto the meet. -/
namespace Z
open PySem PySem.Spec PyProof.Rows L2
section
variable {α β : Type}
end
/-! ### one dimension -/
/-! ### all dimensions -/
/-! ### fractions -/
def val (p : Fra) : Rat := (p.1 : Rat) / (p.2 : Rat)
theorem ne_cast {b : Int} (h : b ≠ 0) : (b : Rat) ≠ 0 := by simpa using h
theorem val_eq {t b t' b' : Int} (hb : 0 < b) (hb' : 0 < b') (h : t * b' = t' * b) : (t : Rat) / (b : Rat) = (t' : Rat) / (b' : Rat) := by
  have n1 := ne_cast (b := b) (by omega)
  have n2 := ne_cast (b := b') (by omega)
  have e : ((t * b' : Int) : Rat) = ((t' * b : Int) : Rat) := by rw [h]
  rw [Rat.intCast_mul, Rat.intCast_mul] at e
  grind
theorem eq_val {t b t' b' : Int} (hb : 0 < b) (hb' : 0 < b') (h : (t : Rat) / (b : Rat) = (t' : Rat) / (b' : Rat)) : t * b' = t' * b := by
  have n1 := ne_cast (b := b) (by omega)
  have n2 := ne_cast (b := b') (by omega)
  have e : ((t * b' : Int) : Rat) = ((t' * b : Int) : Rat) := by
    rw [Rat.intCast_mul, Rat.intCast_mul]
    grind
  exact Rat.intCast_inj.mp e
theorem val_FR {t b : Int} (hb : 0 < b) : val (FR t b) = (t : Rat) / (b : Rat) := val_eq (by have := FR_pos (t := t) (b := b) (by omega); omega) hb (FR_val hb)
theorem val_plus {p q : Fra} (hp : 1 ≤ p.2) (hq : 1 ≤ q.2) : val (fPlus p q) = val p + val q := by
  unfold fPlus
  rw [val_FR (Int.mul_pos (by omega) (by omega))]
  unfold val
  have n1 := ne_cast (b := p.2) (by omega)
  have n2 := ne_cast (b := q.2) (by omega)
  simp only [Rat.intCast_add, Rat.intCast_mul]
  grind
theorem low_eq {p q : Fra} (hp : Low p) (hq : Low q) (h : val p = val q) : p = q := by
  rw [← hp.2, ← hq.2]
  have := hp.1
  have := hq.1
  exact FR_congr (by omega) (by omega) (eq_val (by omega) (by omega) h)
end Z

set_option Elab.async false
set_option linter.all false
set_option maxRecDepth 100000
set_option maxHeartbeats 2000000
/-! Law23: the law k23: projections onto two groupings. -/
namespace Z
open PySem PySem.Spec PyProof.Rows L2
open Evl (Ex Ex.refl Ex.trans Ex.new ex_rd ex_l ex_t sq_of st_of fresh_back sz_of sz_lt)
namespace K23
section
variable {K : PySem.W.Frag} {ρ : Rho} {te : TE} {Rsp Rag Rav Rb Rwd Rme Rs Rpr : Rel} {C : Addr}
end
end K23
end Z

set_option Elab.async false
set_option linter.all false
set_option maxRecDepth 100000
set_option maxHeartbeats 2000000
/-! LawQ: components of vectors, told over rational functions of cells: they add up, and different ones are orthogonal. -/
namespace Z
open PySem PySem.Spec PyProof.Rows L2
abbrev Fn := CellW → Rat
section
variable {ds : List Dm} (gd : GoodDs ds)
include gd
def deps (ds : List Dm) : List Nat := ds.map Dm.dep
/-! ### one dimension -/
def alone (ds : List Dm) (k l : Nat) : List Nat := (deps ds).set k l
def LvlOk (ds : List Dm) (k l : Nat) : Prop := ∃ d, ds[k]? = some d ∧ l ≤ d.dep
/-! ### all dimensions, from one on -/
/-- the levels from a place on -/
def Lvls (ds : List Dm) (k : Nat) (g : List Nat) : Prop := ∀ j l, g[j]? = some l → LvlOk ds (k + j) l
omit gd in
theorem Lvls.tail {k l : Nat} {g : List Nat} (h : Lvls ds k (l :: g)) : LvlOk ds k l ∧ Lvls ds (k + 1) g := ⟨h 0 l rfl, fun j m e => by
  have := h (j + 1) m e
  rw [show k + 1 + j = k + (j + 1) by omega]
  exact this⟩
/-! ### orthogonal -/
end
end Z

set_option Elab.async false
set_option linter.all false
set_option maxRecDepth 100000
set_option maxHeartbeats 2000000
/-! LawQ2: vectors of fractions with one denominator: their sums, projections, components stay small. -/
namespace Z
open PySem PySem.Spec PyProof.Rows L2
def VecQ (ds : List Dm) (Q : Int) (m : Nat) (ps : List Fra) (f : Fn) : Prop :=
  0 < Q ∧ ∃ n : CellW → Int, ps = (cellsR ds).map (fun c => FR (n c) Q) ∧ (∀ c ∈ cellsR ds, Bd m (n c)) ∧ ∀ c ∈ cellsR ds, f c = (n c : Rat) / (Q : Rat)
section
variable {ds : List Dm} {Q : Int} {m : Nat} {ps qs : List Fra} {f h : Fn}
theorem VecQ.ok (v : VecQ ds Q m ps f) {r e : Nat} (hr : Bd r Q) (h1 : r ≤ e) (h2 : m ≤ e) : ∀ p ∈ ps, FraOk e p := fun p hp => by
  obtain ⟨hQ, n, e1, hb, _⟩ := v
  rw [e1] at hp
  obtain ⟨c, hc, rfl⟩ := List.mem_map.mp hp
  have ne : Q ≠ 0 := by omega
  exact ⟨(FR_bd1 ne (hb c hc)).mono h2, (FR_bd2 ne hr).mono h1, FR_pos ne⟩
theorem zipWith_maps {α β γ δ : Type} (g : β → γ → δ) (a : α → β) (b : α → γ) : ∀ l : List α, List.zipWith g (l.map a) (l.map b) = l.map fun x => g (a x) (b x)
  | [] => rfl
  | x :: l => by rw [List.map_cons, List.map_cons, List.zipWith_cons_cons, zipWith_maps g a b l, List.map_cons]
theorem plus_FR {a b Q : Int} (hQ : 0 < Q) : fPlus (FR a Q) (FR b Q) = FR (a + b) Q := by
  have l1 := FR_low (t := a) hQ
  have l2 := FR_low (t := b) hQ
  refine low_eq (fPlus_low l1.1 l2.1) (FR_low hQ) ?_
  rw [val_plus l1.1 l2.1, val_FR hQ, val_FR hQ, val_FR hQ, Rat.intCast_add]
  have := ne_cast (b := Q) (by omega)
  grind
theorem fMinus_low {p q : Fra} (hp : 1 ≤ p.2) (hq : 1 ≤ q.2) : Low (fMinus p q) := FR_low (Int.mul_pos (by omega) (by omega))
theorem val_minus {p q : Fra} (hp : 1 ≤ p.2) (hq : 1 ≤ q.2) : val (fMinus p q) = val p - val q := by
  unfold fMinus
  rw [val_FR (Int.mul_pos (by omega) (by omega))]
  unfold val
  have n1 := ne_cast (b := p.2) (by omega)
  have n2 := ne_cast (b := q.2) (by omega)
  simp only [Rat.intCast_sub, Rat.intCast_mul]
  grind
theorem minus_FR {a b Q : Int} (hQ : 0 < Q) : fMinus (FR a Q) (FR b Q) = FR (a - b) Q := by
  have l1 := FR_low (t := a) hQ
  have l2 := FR_low (t := b) hQ
  refine low_eq (fMinus_low l1.1 l2.1) (FR_low hQ) ?_
  rw [val_minus l1.1 l2.1, val_FR hQ, val_FR hQ, val_FR hQ, Rat.intCast_sub]
  have := ne_cast (b := Q) (by omega)
  grind
theorem VecQ.plus {m : Nat} (v : VecQ ds Q m ps f) (w : VecQ ds Q m qs h) : VecQ ds Q (m + 1) (List.zipWith fPlus ps qs) (fun c => f c + h c) := by
  obtain ⟨hQ, n, e1, hb, hf⟩ := v
  obtain ⟨_, n', e1', hb', hf'⟩ := w
  refine ⟨hQ, fun c => n c + n' c, ?_, fun c hc => (hb c hc).add (hb' c hc), fun c hc => ?_⟩
  · rw [e1, e1', zipWith_maps]
    exact List.map_congr_left fun c _ => plus_FR hQ
  · show f c + h c = _
    rw [hf c hc, hf' c hc, Rat.intCast_add]
    have := ne_cast (b := Q) (by omega)
    grind
theorem VecQ.minus {m : Nat} (v : VecQ ds Q m ps f) (w : VecQ ds Q m qs h) : VecQ ds Q (m + 1) (List.zipWith fMinus ps qs) (fun c => f c - h c) := by
  obtain ⟨hQ, n, e1, hb, hf⟩ := v
  obtain ⟨_, n', e1', hb', hf'⟩ := w
  refine ⟨hQ, fun c => n c - n' c, ?_, fun c hc => (hb c hc).sub (hb' c hc), fun c hc => ?_⟩
  · rw [e1, e1', zipWith_maps]
    exact List.map_congr_left fun c _ => minus_FR hQ
  · show f c - h c = _
    rw [hf c hc, hf' c hc, Rat.intCast_sub]
    have := ne_cast (b := Q) (by omega)
    grind
theorem VecQ.zero (hQ : 0 < Q) : VecQ ds Q 0 ((cellsR ds).map fun _ => (0, 1)) (fun _ => 0) := by
  refine ⟨hQ, fun _ => 0, List.map_congr_left fun c _ => ?_, fun c _ => (show (0 : Int).natAbs < 2 ^ 0 by decide), fun c _ => ?_⟩
  · have e : FR 0 1 = ((0, 1) : Fra) := by decide +kernel
    rw [← e]
    exact FR_congr (by decide) hQ (by rw [Int.zero_mul, Int.zero_mul])
  · rw [Rat.div_def]
    show (0 : Rat) = 0 * _
    grind
/-! ### projections -/
/-! ### components -/
/-! ### a vector has one denominator -/
end
end Z

set_option Elab.async false
set_option linter.all false
set_option maxRecDepth 100000
set_option maxHeartbeats 2000000
/-! ZRng: a range that a name holds, and is walked later. -/
namespace L2
open PySem PySem.Spec PyProof.Rows
end L2
namespace Z
open PySem PySem.Spec PyProof.Rows L2
open Evl (Ex Ex.refl Ex.trans Ex.new ex_rd ex_l ex_t sq_of st_of fresh_back sz_of sz_lt)
variable {K : PySem.W.Frag} {ρ ρ' : Rho} {te : TE} {tx : TA}
end Z

set_option Elab.async false
set_option linter.all false
set_option maxRecDepth 100000
set_option maxHeartbeats 2000000
/-! Law24a: components and groupings by the program and by the law. -/
namespace Z
open PySem PySem.Spec PyProof.Rows L2
open Evl (Ex Ex.refl Ex.trans Ex.new ex_rd ex_l ex_t sq_of st_of fresh_back sz_of sz_lt)
namespace K24
section
variable {K : PySem.W.Frag} {S : List Nat} {ρ ρ' ρ1 ρ2 : Rho} {ta tb te : TE} {ds es : List D} {C : Addr} {Rd Ra Rm Rp Rc Rk Rl : Rel}
/-! ### _level_alone -/
/-! ### component -/
structure Fine (ds : List Dm) (Q : Int) (m r : Nat) (ps : List Fra) (f : Fn) : Prop where
  v : VecQ ds Q m ps f
  b : Bd r Q
theorem Fine.ok {ds : List Dm} {Q : Int} {m r : Nat} {ps : List Fra} {f : Fn} (h : Fine ds Q m r ps f) (hm : m ≤ 300) (hr : r ≤ 300) : ∀ p ∈ ps, FraOk 300 p := h.v.ok h.b hr hm
end
end K24
end Z

set_option Elab.async false
set_option linter.all false
set_option maxRecDepth 100000
set_option maxHeartbeats 2000000
/-! Law06a: groupings and groups that are refused: the program's part. -/
namespace Z
open PySem PySem.Spec PyProof.Rows L2
open Evl (Ex Ex.refl Ex.trans Ex.new ex_rd ex_l ex_t sq_of st_of fresh_back sz_of sz_lt)
namespace K06
end K06
/-! ### levels and members of any text -/
/-! ### which tuples are groupings, groups -/
section
variable {K : PySem.W.Frag} {C Cb : Addr} {W : WX} {S : List Nat} {ρ ρ1 ρ2 : Rho} {te ta tb : TE} {ts us : TS} {tr : TA} {e : Exn} {g : TG} {d : D}
/-! ### what raises within an expression -/
/-! ### the raising ends -/
/-! ### groups -/
end
end Z

set_option Elab.async false
set_option linter.all false
set_option maxRecDepth 100000
set_option maxHeartbeats 2000000
/-! Law06b: what the law k06 says of groupings and groups. -/
namespace Z
open PySem PySem.Spec PyProof.Rows L2
open Evl (Ex Ex.refl Ex.trans Ex.new ex_rd ex_l ex_t sq_of st_of fresh_back sz_of sz_lt)
section
variable {K : PySem.W.Frag} {C Cb Ce Cg : Addr} {ρ ρ1 ρ2 : Rho} {ta tb : TE}
/-! ### _law_level, _law_members -/
end
end Z

set_option Elab.async false
set_option linter.all false
set_option maxRecDepth 100000
set_option maxHeartbeats 2000000
/-! ZSort: sorted(xs) of data at any depth (ints, texts, tuples of these, nested). -/
namespace L2
open PySem PySem.Spec PyProof.Rows
section
variable {X : Cx}
end
end L2
namespace Z
open PySem PySem.Spec PyProof.Rows L2
open Evl (Ex Ex.refl Ex.trans Ex.new ex_rd ex_l ex_t sq_of st_of fresh_back sz_of sz_lt)
open PySem.W (EachIs dataLe alike alikeAll AllAlike Sortable)
section
variable {K : PySem.W.Frag} {ρ ρ1 : Rho} {te : TE} {α : Type} [DecidableEq α] {dd : α → D} {pd : α → PyData} {ok : α → Prop} {n : Nat}
end
/-! ### pairs and triples that == tells apart -/
section
variable {α β γ : Type} [DecidableEq α] [DecidableEq β] [DecidableEq γ] {da : α → D} {pa : α → PyData} {oka : α → Prop} {na : Nat} {db : β → D} {pb : β → PyData} {okb : β → Prop} {nb : Nat} {dc : γ → D} {pc : γ → PyData} {okc : γ → Prop} {nc : Nat}
theorem EqT.pair (A : EqT α da pa oka na) (B : EqT β db pb okb nb) : EqT (α × β) (fun x => .tup [da x.1, db x.2]) (fun x => .tuple [pa x.1, pb x.2]) (fun x => oka x.1 ∧ okb x.2) (na + nb + 3) where
  dp := fun K H v x h => by
    obtain ⟨a, xs, rfl, hs, hz⟩ := h.tup_inv
    cases hz with
    | cons h1 hz =>
      cases hz with
      | cons h2 hz =>
        cases hz
        exact .tup hs (.cons (A.dp K H _ _ h1) (.cons (B.dp K H _ _ h2) .nil))
  lay := fun x h => by simp only [PyData.canLay0, PyData.canLayAll0, A.lay _ h.1, B.lay _ h.2, Bool.and_self, Bool.and_true]
  dep := fun x => by
    have := A.dep x.1
    have := B.dep x.2
    simp only [PyData.depth, PyData.depthAll]
    omega
  eqv := fun x y => by
    simp only [PyData.eqv, PyData.eqvAll, A.eqv, B.eqv, Bool.and_true]
    obtain ⟨x1, x2⟩ := x
    obtain ⟨y1, y2⟩ := y
    simp [Prod.ext_iff]
end
end Z

set_option Elab.async false
set_option linter.all false
set_option maxRecDepth 100000
set_option maxHeartbeats 2000000
/-! LawO: groups in order, rows of groups, drawn families of groups. -/
namespace Z
open PySem PySem.Spec PyProof.Rows L2
open Evl (Ex Ex.refl Ex.trans Ex.new ex_rd ex_l ex_t sq_of st_of fresh_back sz_of sz_lt)
open PySem.W (dataLe alike alikeAll)
/-! ### groups, by words -/
open K04 (keysW keys_nd keys_ded ded_len CLgs map_path_inj keys_at)
def gOf (us : CellW) : List Nat := us.map List.length
/-- us is a group of a grouping -/
def InG (ds : List Dm) (us : CellW) : Prop := ∃ g, GrOk ds g ∧ us ∈ grpsW ds g
section
variable {ds : List Dm} {us vs : CellW}
theorem InG.facts (gd : GoodDs ds) (h : InG ds us) : GrOk ds (gOf us) ∧ us ∈ grpsW ds (gOf us) ∧ GrpIn ds us ∧ (∀ w ∈ us, GoodW w) ∧ us.length ≤ 3 := by
  obtain ⟨g, h1, h2⟩ := h
  obtain ⟨i1, i2, i3⟩ := grps_in ds g us (fun d hd => gd.lv hd) h1 h2
  have e : gOf us = g := i2
  rw [e]
  have := i1.len
  have := gd.most
  exact ⟨h1, h2, i1, i3, by omega⟩
theorem InG.short (gd : GoodDs ds) (h : InG ds us) : ∀ w ∈ us, w.length ≤ 3 := by
  obtain ⟨h1, _, h3, _, _⟩ := h.facts gd
  have key : ∀ (ds : List Dm) (us : CellW), (∀ d ∈ ds, d.dep ≤ 3) → GrOk ds (gOf us) → ∀ w ∈ us, w.length ≤ 3 := fun ds => by
    induction ds with
    | nil =>
      intro us _ h w hw
      cases us with
      | nil => cases hw
      | cons _ _ => exact h.elim
    | cons d ds ih =>
      intro us hd h w hw
      cases us with
      | nil => cases hw
      | cons u us =>
        rcases List.mem_cons.mp hw with rfl | hw
        · have := hd d List.mem_cons_self
          have := h.1
          omega
        · exact ih us (fun x hx => hd x (List.mem_cons_of_mem _ hx)) h.2 w hw
  exact key ds us (fun d hd => by have := (gd.at_ hd).n3; omega) h1
theorem InG.ok (gd : GoodDs ds) (h : InG ds us) : ∀ s ∈ us.map pathS, StrOk s := fun s hs => by
  obtain ⟨w, hw, rfl⟩ := List.mem_map.mp hs
  exact path_ok ((h.facts gd).2.2.2.1 w hw)
theorem InG.inj (gd : GoodDs ds) (h : InG ds us) (k : InG ds vs) (e : us.map pathS = vs.map pathS) : us = vs := map_path_inj (h.facts gd).2.2.2.1 (k.facts gd).2.2.2.1 e
theorem InG.key (gd : GoodDs ds) (h : InG ds us) : us.map pathS ∈ keysW ds (gOf us) := List.mem_map_of_mem (h.facts gd).2.1
end
/-! ### the order -/
section
variable {K : PySem.W.Frag} {C : Addr}
/-! ### _law_row -/
/-! ### _law_family -/
end
end Z

set_option Elab.async false
set_option linter.all false
set_option maxRecDepth 100000
set_option maxHeartbeats 2000000
/-! ZHot: exceptions with a field of their own; calls within a suite. -/
namespace Z
open PySem PySem.Spec PyProof.Rows L2
open Evl (Ex Ex.refl Ex.trans Ex.new ex_rd ex_l ex_t sq_of st_of fresh_back sz_of sz_lt)
section
variable {X : Cx} {x : Str} {C fI : Addr} {k : Nat} {fd : FuncData} {ps : List Str} {sp : Sp} {e : Expr} {es : List Expr} {ta : TA} {p pos : Pos}
/-- C(e, ..), C with an own __init__ -/
theorem pmk_ownI (T : OexC X.K C) (iC : PySem.W.findIn X.K (.ref C) "__init__" = some (some (.ref fI))) (tI : PySem.W.typeIn X.K (.ref fI) = some (.type "function")) (F0 : FnOk X.prog X.w X.K X.mg X.base CX0 k fI fd ps sp) (hr : Room (k + 1) X.A) (hb : Binds X.K fd ps []) (hg : Gl X x) (gC : X.mg x = some (.ref C)) (ha : PA X (e :: es) ta)
    (hdb : (x == ("__debug__" : Str)) = false := by decide) (he : starEach (e :: es) X.env = (false, eval e X.env) :: starEach es X.env := by rfl) (hpl : (backTo pos (starEach es X.env)).any (·.1) = false := by rfl) :
    L2N.PMk X (.Call (.Name x p) (e :: es) [] pos) (tMkO C sp [] ta) := by
  intro pins s σ H Q I h
  obtain ⟨nm, qn, N, bs, bm, sn, sub, ab, col, dd, k0, k1, k2, k3, k5, lC, vC⟩ := T.cls
  refine wpAny_Call_Name_kw (ld_glob I hg gC (PySem.W.callWith_K (h₀ := X.base) I.ok.mod.kin T.kC (thn (ha.run pos pins s σ H _ I h) fun us s1 w1 => ?_) he hpl) hdb)
  obtain ⟨vs, H1, I1, r1, z1, q1⟩ := w1
  refine ⟨I1.kIn, ?_⟩
  show wpAny _ _ (call (.ref C) us) _ _ _
  obtain ⟨hp, gs, dr, tk, os⟩ := s1
  generalize en : hp.objs.size + 1 = n at *
  have le : hp.objs.size ≤ n := by omega
  have free : H1 n = none := I1.hok.fresh le
  have run1 := q1 n free
  rw [List.append_nil] at run1
  have old : ∀ b o, hp.get? b = some o → ((hp.push (PySem.W.kdv_tup us)).push (PySem.HandSPX.excO C hp.objs.size)).get? b = some o := fun b o y => Heap.get?_push_of_some _ (Heap.get?_push_of_some _ y)
  have new : ((hp.push (PySem.W.kdv_tup us)).push (PySem.HandSPX.excO C hp.objs.size)).get? n = some (PySem.HandSPX.excO C hp.objs.size) := by subst en; heap_get
  have J1 : Inv X pins σ (upd H1 n (exo n C none)) ⟨(hp.push (PySem.W.kdv_tup us)).push (PySem.HandSPX.excO C hp.objs.size), gs, dr, tk, os⟩ := I1.laid (t' := tk) old le (exo_ok new)
  have rv : Vals (V.ref n :: vs) (Value.ref n :: us) := .cons rfl r1
  have len1 : (Value.ref n :: us ++ []).length = ps.length := by rw [List.append_nil, ← rv.length, F0.len _ _ _ _ run1]
  have sz : us.length ≤ sizeLine := by rw [← Paired.length r1, sizeLine_eq]; omega
  have bd := hb _ (Value.ref n :: us) J1.kIn len1
  rw [List.append_nil] at bd
  have run2 := F0.run _ X.stack _ _ ⟨Value.ref n :: us, []⟩ (Value.ref n :: us) _ _ (fun _ _ _ => False) (hr.make C us []) (J1.env0.make C us []) bd rv run1
  subst en
  refine wpAny_call (PySem.HandSPX.call_own PySem.F.excBase_ValueError (fun Y => PySem.HandSPX.refsVE_contains Y bm vC) (I1.kIn _ _ lC) (PySem.W.looks_findIn I1.kIn iC) (fun self => PySem.W.bind_fn I1.kIn self tI) sz (codeAny_mono run2 fun r s2 w2 => ?_))
  match r, w2 with
  | .error _, w2 => exact False.elim w2
  | .ok .next, w2 => exact False.elim w2
  | .ok .brk, w2 => exact False.elim w2
  | .ok .cont, w2 => exact False.elim w2
  | .ok (.ret u), w2 =>
    obtain ⟨v, H2, os2, bare2, un2, hok2, ru, ev, d, fs, ea, ed, hd1, q2⟩ := w2
    subst ev
    obtain ⟨h2, g2, d2, t2, os'⟩ := s2
    obtain ⟨t0, G, J, kG, ge, hoe, na⟩ := mk_end0 (d2 := d2) (t2 := t2) I1 le old un2 hok2 os2 bare2 ea ed hd1
    exact ⟨ru, hp.objs.size + 1, _, _, ⟨G, g2, d2, t2, os'⟩, _, .ref C, some d, rfl, J, kG, ge, hoe, ⟨rfl, rfl, fun vs hv => by cases hv; rfl⟩, rfl, rfl, na, rfl, bare2, raises_own T.exC T.tyC, q2⟩
end
/-- __init__: self.f = v -/
def spIni (K : PySem.W.Frag) (C : Addr) (f : Str) : Sp := fun vs H Q _ => ∃ (a : Addr) (v : V), vs = [.ref a, v] ∧ H a = some (exo a C none) ∧ ∀ dx, H dx = none → dx ≠ a → Q .non (upd (upd H dx (exd dx [(f, v)])) a (exo a C (some dx)))
def t_oini (K : PySem.W.Frag) (f : Str) : TS := tOst K f (tVar 0) (tVar 1)
/-- what is known of the class at C, whose __init__ keeps one argument as f -/
structure XIni (P : Program) (w : World) (K : PySem.W.Frag) (mg : Str → Option Value) (base : Heap) (k : Nat) (C : Addr) (f : Str) : Prop where
  T : OexC K C
  ex : ∃ (fI : Addr) (fd : FuncData) (ps : List Str), PySem.W.findIn K (.ref C) "__init__" = some (some (.ref fI)) ∧ PySem.W.typeIn K (.ref fI) = some (.type "function") ∧ FnOk P w K mg base CX0 k fI fd ps (spIni K C f) ∧ Binds K fd ps []
theorem ini_x {P : Program} {w : World} {K : PySem.W.Frag} {mg : Str → Option Value} {base : Heap} {qual f : Str} {st : Stmt} {C fI : Addr} {fd : FuncData} {N ps : List Str} {k : Nat} (F : Fun K "__init__" qual st fI fd) (T : OexC K C) (no : PySem.W.findIn K (.ref C) f = some none) (iC : PySem.W.findIn K (.ref C) "__init__" = some (some (.ref fI))) (tI : PySem.W.typeIn K (.ref fI) = some (.type "function"))
    (Sc : FnScope N ps (defScope st)) (hn : N.length = 2) (hp : ps.length = 2) (b : Binds K fd ps []) (h : ∀ (cdv : Value) (A : Around) (outer : List Env) (s : Shared) (H : Hp) (E : XK), PSs (cxOf CX0 P w K mg base N qual (defScope st) fI cdv A outer s H E).nox (defBody st) (t_oini K f)) : XIni P w K mg base (k + 1) C f := by
  refine ⟨T, fI, fd, ps, iC, tI, F.ok (k := k) Sc (fun vs H Q E hs => ?_) (fun cdv A outer s H vs Q E hr hs => ⟨t_oini K f, h cdv A outer s H E, ?_⟩), b⟩
  · obtain ⟨a, v, rfl, _⟩ := hs
    rw [hp]
    rfl
  · obtain ⟨a, v, rfl, ha, q⟩ := hs
    have e : L2.start N [V.ref a, v] = [some (.ref a), some v] := by
      unfold L2.start
      rw [show N.length - [V.ref a, v].length = 0 by rw [hn]; rfl]
      rfl
    rw [e]
    exact ⟨v, rfl, .ref a, rfl, a, C, rfl, T, no, .inl ⟨ha, fun dx n ne => q dx n ne⟩⟩
def tRaise1 (K : PySem.W.Frag) (C : Addr) (f : Str) (W : WX) (ta : TA) : TS := fun _ σ H => tMkO C (spIni K C f) [] ta σ H fun cls d H' => W cls d σ H'
theorem ps_raise1 {X : Cx} {C : Addr} {x f : Str} {e : Expr} {ta : TA} {p pos pos2 : Pos} {W : WX} {j k : Nat} (hc : X.calm = true) (tk : L2N.Takes X W) (G : XIni X.prog X.w X.K X.mg X.base k C f) (gC : X.mg x = some (.ref C)) (hr : Room j X.A) (hk : k + 1 ≤ j) (hg : Gl X x) (ha : PA X [e] ta) (hdb : (x == ("__debug__" : Str)) = false := by decide)
    (he : starEach [e] X.env = (false, eval e X.env) :: starEach [] X.env := by rfl) (hpl : (backTo pos (starEach [] X.env)).any (·.1) = false := by rfl) : PS X (.Raise (some (.Call (.Name x p) [e] [] pos)) none pos2) (tRaise1 X.K C f W ta) := by
  obtain ⟨fI, fd, ps, iC, tI, F, b⟩ := G.ex
  exact L2N.ps_raise hc tk (pmk_ownI G.T iC tI F (hr.mono hk) b hg gC ha hdb he hpl)
section
variable {K : PySem.W.Frag} {S : List Nat} {W : WX} {ρ ρ1 : Rho} {ta tb te : TE} {tx : TA} {i : Nat} {a : Addr} {d : Option Addr} {fs : List (Str × D)} {fo : Option (List (Str × D))} {dv du : D} {b c : Bool} {E : L2.St → XK}
theorem xx_raise1 {C : Addr} {f : Str} (h : AgZ K tx ρ ρ1 [dv]) : ExX K S W (tRaise1 K C f W tx) ρ ρ1 ⟨.ref C, some [(f, dv)]⟩ := fun M G H σ E fr s q => h M G H σ s _ fun vs G1 H1 g1 s1 dz => by
  cases dz with
  | cons hv hn =>
    rename_i v xs
    cases hn
    refine ⟨by show 1 ≤ 1000; decide, fun a ha => ⟨a, v, rfl, upd_same, fun dx hdx ne => ⟨rfl, dx, [(f, v)], ?_, ?_, ?_, ?_⟩⟩⟩
    · exact upd_same
    · rw [upd_ne ne]; exact upd_same
    · have := hdx
      rw [upd_ne ne] at this
      exact this
    · have n1 : H1 dx = none := by
        have := hdx
        rw [upd_ne ne] at this
        exact this
      have eH : upd (L2.del (upd (upd (upd H1 a (exo a C none)) dx (exd dx [(f, v)])) a (exo a C (some dx))) a) dx (.xd [(f, v)]) = upd H1 dx (.xd [(f, v)]) := by
        funext y
        by_cases y1 : y = dx
        · rw [y1, upd_same, upd_same]
        · rw [upd_ne y1, upd_ne y1]
          by_cases y2 : y = a
          · rw [y2, L2.del_same, ha]
          · rw [L2.del_ne y2, upd_ne y2, upd_ne y1, upd_ne y2]
      rw [eH]
      exact q (some dx) _ _ σ (g1.trans (.new n1 s1.sub)) .refl (s1.new n1) ⟨dx, [(f, v)], rfl, upd_same, .cons (hv.mono (Ex.new (fresh_back s1.sub n1))) .nil⟩
/-! ### suites that read the exception -/
end
/-! ### defs that a suite calls -/
structure Zdeh (P : Program) (w : World) (K : PySem.W.Frag) (mg : Str → Option Value) (base : Heap) (k : Nat) (x : Str) (ps : List Str) (R : Rel) : Prop where
  ex : ∃ (f : Addr) (fd : FuncData), L2H.FnH P w K mg base CX0 k f fd ps (SpZ K R) ∧ mg x = some (.ref f) ∧ PySem.W.keepIn K (.ref f) = true ∧ Binds K fd ps []
end Z

set_option Elab.async false
set_option linter.all false
set_option maxRecDepth 100000
set_option maxHeartbeats 2000000
/-! Law16: amounts, sums of amounts, drawn facts and questions. -/
namespace Z
open PySem PySem.Spec PyProof.Rows L2
open Evl (Ex Ex.refl Ex.trans Ex.new ex_rd ex_l ex_t sq_of st_of fresh_back sz_of sz_lt)
/-! ### facts -/
section
variable {K : PySem.W.Frag} {C Ce : Addr}
/-! ### totals -/
/-! ### as_facts, value -/
/-! ### _law_sum_of -/
/-! ### sums -/
/-! ### what the law draws -/
/-! ### _law_amounts_of, _law_refuses_cell -/
end
end Z

set_option Elab.async false
set_option linter.all false
set_option maxRecDepth 100000
set_option maxHeartbeats 2000000
/-! Law01c: the law k01: its loops, its meaning. -/
namespace Z
open PySem PySem.Spec PyProof.Rows L2
open Evl (Ex Ex.refl Ex.trans Ex.new ex_rd ex_l ex_t sq_of st_of fresh_back sz_of sz_lt)
section
variable {K : PySem.W.Frag} {C Ce Cn Cb : Addr} {Rsp Rc Rco Rpt Rx Rpa Rb Rcs Rd Rlp Rs Rwd : Rel} {RX : RelX}
theorem get_lt {α : Type} {l : List α} {i : Nat} (h : i < l.length) : ∃ x, l[i]? = some x := ⟨_, List.getElem?_eq_getElem h⟩
/-- _law_same of a thing with itself -/
theorem ts_same {n : Nat} (hs : Spec Rs (PreSame n) PostSame) {ρ ρ1 ρ2 : Rho} {ta tb : TE} {d : D} (ha : EvZ K ta ρ ρ1 d) (hb : EvZ K tb ρ1 ρ2 d) (hp : Plain n d) : TsZ K (tNot (tB (tCall (SpZ K Rs) [] E0 (tCons ta (tCons tb tNil))))) ρ ρ2 false := by
  obtain ⟨r, cs', h, rfl, rfl⟩ := hs _ ⟨d, rfl, hp⟩
  exact ts_not (b := true) (ts_B (ev_callF (ds := [d, d]) (ag_cons ha (ag_cons hb ag_nil)) h))
theorem cel_len {ds : List Dm} (g : GoodDs ds) {c : List Str} (h : c ∈ celS ds) : c.length = ds.length := by
  rw [celS_is] at h
  obtain ⟨c', h', rfl⟩ := List.mem_map.mp h
  rw [List.length_map]
  exact (cell_good ds c' g.good h').1
theorem cel_ok {ds : List Dm} (g : GoodDs ds) {c : List Str} (h : c ∈ celS ds) : ∀ s ∈ c, StrOk s := fun s hs => by
  rw [celS_is] at h
  obtain ⟨c', h', rfl⟩ := List.mem_map.mp h
  obtain ⟨w, hw, rfl⟩ := List.mem_map.mp hs
  exact path_ok ((cell_good ds c' g.good h').2 w hw).1
abbrev b3 (K : PySem.W.Frag) (Rsp Rc Rco Rpt Rx : Rel) (RX : RelX) (Rpa Rb Rcs Rd Rlp Rs Rwd : Rel) (Cb Ce Cn C : Addr) : TS := K01.b_law_3 K Rsp Rc Rco Rpt Rx RX Rpa Rb Rcs Rd Rlp Rs Rwd Cb Ce Cn C
abbrev b2 (K : PySem.W.Frag) (Rsp Rc Rco Rpt Rx : Rel) (RX : RelX) (Rpa Rb Rcs Rd Rlp Rs Rwd : Rel) (Cb Ce Cn C : Addr) : TS := K01.b_law_2 K Rsp Rc Rco Rpt Rx RX Rpa Rb Rcs Rd Rlp Rs Rwd Cb Ce Cn C
theorem turn (hxm : CCelX C Ce Rx RX) (hpa : CPath Rpa) (hd : Spec Rd PreDraw PostDraw) (em : PySem.W.exmOne K (.ref Ce) (.ref Cb) = some true) (k1 : PySem.W.kitOne K (.ref Ce) (.ref Ce) = some true) (k2 : PySem.W.kitOne K (.ref Ce) (.ref Cn) = some false)
    {ds : List Dm} (gd : GoodDs ds) {c0 c4 c6 : Cell} (b : List D) (hb : GoodBox b) (c7 c8 c9 c10 c11 c12 : Cell) : ∃ (b' : List D) (c7' c8' c9' c10' c11' c12' : Cell), GoodBox b' ∧ ExZ K [] (b2 K Rsp Rc Rco Rpt Rx RX Rpa Rb Rcs Rd Rlp Rs Rwd Cb Ce Cn C) [c0, .fr (dimsD ds), .fr (spD C ds), .fr (.lst ((celS ds).map celT)), c4, .own b, c6, c7, c8, c9, c10, c11, c12, .no]
      (.nx [c0, .fr (dimsD ds), .fr (spD C ds), .fr (.lst ((celS ds).map celT)), c4, .own b', c6, c7', c8', c9', c10', c11', c12', .no]) := by
  have n1 := gd.few
  have n3 := gd.most
  have pos := cells_pos gd.good
  -- strange
  obtain ⟨v1, b1, a1, a2, hb1, he1⟩ := ev_draw (K := K) hd (i := 5) (ρ := [c0, .fr (dimsD ds), .fr (spD C ds), .fr (.lst ((celS ds).map celT)), c4, .own b, c6, c7, c8, c9, c10, c11, c12, .no]) rfl (ev_lenL (ds := (celS ds).map celT) (ev_var (i := 3) rfl).rd) rfl hb (by rw [List.length_map, celS_len]; omega)
  obtain ⟨i1, rfl⟩ := Int.eq_ofNat_of_zero_le a1
  rw [List.length_map] at a2
  obtain ⟨c, hc⟩ := get_lt (l := celS ds) (i := i1) (by omega)
  have hcm := List.mem_of_getElem? hc
  have cl := cel_len gd hcm
  have cok := cel_ok gd hcm
  have s1 := ex_setN (S := []) (i := 7) (en_lstT (ev_ixL (ds := (celS ds).map celT) (d := celT c) (ev_var (i := 3) rfl) he1 (at_nat (j := i1) (by rw [List.getElem?_map, hc]; rfl)))) (.set rfl) (by decide)
  -- at
  obtain ⟨v2, b2', a3, a4, hb2, he2⟩ := ev_draw (K := K) hd (i := 5) (ρ := [c0, .fr (dimsD ds), .fr (spD C ds), .fr (.lst ((celS ds).map celT)), c4, .own b1, c6, .own (c.map .str), c8, c9, c10, c11, c12, .no]) rfl (ev_lenL (ds := c.map .str) (rd_own (i := 7) rfl)) rfl hb1 (by rw [List.length_map]; omega)
  obtain ⟨at_, rfl⟩ := Int.eq_ofNat_of_zero_le a3
  rw [List.length_map] at a4
  have s2 := ex_set (S := []) (i := 8) he2 (by decide)
  -- kind, path
  obtain ⟨v3, b3', a5, a6, hb3, he3⟩ := ev_draw (K := K) hd (i := 5) (ρ := [c0, .fr (dimsD ds), .fr (spD C ds), .fr (.lst ((celS ds).map celT)), c4, .own b2', c6, .own (c.map .str), .fr (.int (at_ : Int)), c9, c10, c11, c12, .no]) rfl (ev_int (i := 4)) rfl hb2 (by decide)
  have s3 := ex_set (S := []) (i := 9) he3 (by decide)
  obtain ⟨p, b4, hb4, pok, hR⟩ := hpa b3' ds hb3 gd
  have s4 := ex_set (K := K) (S := []) (ρ := [c0, .fr (dimsD ds), .fr (spD C ds), .fr (.lst ((celS ds).map celT)), c4, .own b3', c6, .own (c.map .str), .fr (.int (at_ : Int)), .fr (.int v3), c10, c11, c12, .no]) (i := 10) (ev_callB (X := E0) (ds := [dimsD ds]) (i := 5) rfl (ag_cons (ev_var (i := 1) rfl) ag_nil) rfl hR) (by decide)
  have t : ∀ k : Int, TsZ K (tTest (tOp rEq (tVar 9) (tC (.int k)))) [c0, .fr (dimsD ds), .fr (spD C ds), .fr (.lst ((celS ds).map celT)), c4, .own b4, c6, .own (c.map .str), .fr (.int (at_ : Int)), .fr (.int v3), .fr (.str p), c11, c12, .no] [c0, .fr (dimsD ds), .fr (spD C ds), .fr (.lst ((celS ds).map celT)), c4, .own b4, c6, .own (c.map .str), .fr (.int (at_ : Int)), .fr (.int v3), .fr (.str p), c11, c12, .no] (decide (v3 = k)) := fun k => ts_test (ev_eqI (ev_i1 (i := 9) (n := v3) rfl) ev_int)
  have s5 : ∃ z : List Str, (∀ x ∈ z, StrOk x) ∧ ExZ K [] (tIfS (tTest (tOp rEq (tVar 9) (tC (.int 0)))) (tAsg (tOp rCat (tSl (rSlL K) (tVar 7) tNoPart (tPart (tVar 8))) (tSl (rSlL K) (tVar 7) (tPart (tOp rAddI (tVar 8) (tC (.int 1)))) tNoPart)) (gName 7)) (tIfS (tTest (tOp rEq (tVar 9) (tC (.int 1)))) (tAsg (tOp rCat (tOp rCat (tSl (rSlL K) (tVar 7) tNoPart (tPart (tVar 8))) (tLst (tCons (tVar 10) tNil))) (tSl (rSlL K) (tVar 7) (tPart (tVar 8)) tNoPart)) (gName 7)) (tAsg (tVar 10) (gSub (tVar 7) (tVar 8) rSetL))))
      [c0, .fr (dimsD ds), .fr (spD C ds), .fr (.lst ((celS ds).map celT)), c4, .own b4, c6, .own (c.map .str), .fr (.int (at_ : Int)), .fr (.int v3), .fr (.str p), c11, c12, .no] (.nx [c0, .fr (dimsD ds), .fr (spD C ds), .fr (.lst ((celS ds).map celT)), c4, .own b4, c6, .own (z.map .str), .fr (.int (at_ : Int)), .fr (.int v3), .fr (.str p), c11, c12, .no]) := by
    have sl : ∀ {tl th : TO} {lo hi : Option Int}, PoZ K tl [c0, .fr (dimsD ds), .fr (spD C ds), .fr (.lst ((celS ds).map celT)), c4, .own b4, c6, .fr (.lst (c.map .str)), .fr (.int (at_ : Int)), .fr (.int v3), .fr (.str p), c11, c12, .no] [c0, .fr (dimsD ds), .fr (spD C ds), .fr (.lst ((celS ds).map celT)), c4, .own b4, c6, .fr (.lst (c.map .str)), .fr (.int (at_ : Int)), .fr (.int v3), .fr (.str p), c11, c12, .no] lo →
        PoZ K th [c0, .fr (dimsD ds), .fr (spD C ds), .fr (.lst ((celS ds).map celT)), c4, .own b4, c6, .fr (.lst (c.map .str)), .fr (.int (at_ : Int)), .fr (.int v3), .fr (.str p), c11, c12, .no] [c0, .fr (dimsD ds), .fr (spD C ds), .fr (.lst ((celS ds).map celT)), c4, .own b4, c6, .fr (.lst (c.map .str)), .fr (.int (at_ : Int)), .fr (.int v3), .fr (.str p), c11, c12, .no] hi →
        EvN K (tSl (rSlL K) (tVar 7) tl th) [c0, .fr (dimsD ds), .fr (spD C ds), .fr (.lst ((celS ds).map celT)), c4, .own b4, c6, .fr (.lst (c.map .str)), .fr (.int (at_ : Int)), .fr (.int v3), .fr (.str p), c11, c12, .no] [c0, .fr (dimsD ds), .fr (spD C ds), .fr (.lst ((celS ds).map celT)), c4, .own b4, c6, .fr (.lst (c.map .str)), .fr (.int (at_ : Int)), .fr (.int v3), .fr (.str p), c11, c12, .no] ((cutL c lo hi).map .str) := fun {tl th lo hi} h1 h2 => by
      have q := en_slZ (K := K) (te := tVar 7) (ev_var (i := 7) (d := .lst (c.map .str)) rfl) h1 h2
      rw [cut_map] at q
      exact q
    have pAt := poz_some (K := K) (ev_i1 (ρ := [c0, .fr (dimsD ds), .fr (spD C ds), .fr (.lst ((celS ds).map celT)), c4, .own b4, c6, .fr (.lst (c.map .str)), .fr (.int (at_ : Int)), .fr (.int v3), .fr (.str p), c11, c12, .no]) (i := 8) (n := (at_ : Int)) rfl)
    have pAt1 := poz_some (K := K) (ev_add (ev_i1 (ρ := [c0, .fr (dimsD ds), .fr (spD C ds), .fr (.lst ((celS ds).map celT)), c4, .own b4, c6, .fr (.lst (c.map .str)), .fr (.int (at_ : Int)), .fr (.int v3), .fr (.str p), c11, c12, .no]) (i := 8) (n := (at_ : Int)) rfl) (ev_int (i := 1)))
    by_cases k0 : v3 = 0
    · refine ⟨cutL c none (some (at_ : Int)) ++ cutL c (some ((at_ : Int) + 1)) none, fun x hx => ?_, ex_ifT (ts_is (t 0) (decide_eq_true k0)) (ex_freeze (i := 7) rfl ?_)⟩
      · rcases List.mem_append.mp hx with h | h <;> exact cok x (cut_mem x h)
      · have l1 := cut_len (xs := c) (lo := none) (hi := some (at_ : Int))
        have l2 := cut_len (xs := c) (lo := some ((at_ : Int) + 1)) (hi := none)
        rw [List.map_append]
        exact ex_setN (i := 7) (en_cat (sl poz_none pAt) .refl (sl pAt1 poz_none) (by rw [List.length_map, List.length_map]; omega)) .refl (by decide)
    · by_cases k1 : v3 = 1
      · refine ⟨cutL c none (some (at_ : Int)) ++ [p] ++ cutL c (some (at_ : Int)) none, fun x hx => ?_, ex_ifF (ts_is (t 0) (decide_eq_false k0)) (ex_ifT (ts_is (t 1) (decide_eq_true k1)) (ex_freeze (i := 7) rfl ?_))⟩
        · rcases List.mem_append.mp hx with h | h
          · rcases List.mem_append.mp h with h | h
            · exact cok x (cut_mem x h)
            · rw [List.mem_singleton.mp h]; exact pok.1
          · exact cok x (cut_mem x h)
        · have l1 := cut_len (xs := c) (lo := none) (hi := some (at_ : Int))
          have l2 := cut_len (xs := c) (lo := some (at_ : Int)) (hi := none)
          rw [List.map_append, List.map_append]
          exact ex_setN (i := 7) (en_cat (en_cat (sl poz_none pAt) .refl (en_lst (ag_cons (ev_var (i := 10) rfl) ag_nil) (by show 1 ≤ 100000; decide)) (by rw [List.length_map]; show _ + 1 ≤ _; omega)) .refl (sl pAt poz_none) (by rw [List.length_append, List.length_map, List.length_map]; show _ + 1 + _ ≤ _; omega)) .refl (by decide)
      · refine ⟨c.set at_ p, fun x hx => ?_, ex_ifF (ts_is (t 0) (decide_eq_false k0)) (ex_ifF (ts_is (t 1) (decide_eq_false k1)) ?_)⟩
        · rcases List.mem_or_eq_of_mem_set hx with h | h
          · exact cok x h
          · rw [h]; exact pok.1
        · rw [List.map_set]
          exact ex_setAt (i := 7) (d := .str p) (ev_var (i := 10) rfl) (ev_var (i := 8) rfl) rfl rfl (ixN_nat (by rw [List.length_map]; omega))
  obtain ⟨z, zok, s5⟩ := s5
  have s6 := ex_set (K := K) (S := []) (ρ := [c0, .fr (dimsD ds), .fr (spD C ds), .fr (.lst ((celS ds).map celT)), c4, .own b4, c6, .own (z.map .str), .fr (.int (at_ : Int)), .fr (.int v3), .fr (.str p), c11, c12, .no]) (i := 7) (ev_tupO (i := 7) rfl) (by decide)
  have s7 := ex_set (K := K) (S := []) (ρ := [c0, .fr (dimsD ds), .fr (spD C ds), .fr (.lst ((celS ds).map celT)), c4, .own b4, c6, .fr (celT z), .fr (.int (at_ : Int)), .fr (.int v3), .fr (.str p), c11, c12, .no]) (i := 11) (ev_bl (i := false)) (by decide)
  have s8 := ex_set (K := K) (S := []) (ρ := [c0, .fr (dimsD ds), .fr (spD C ds), .fr (.lst ((celS ds).map celT)), c4, .own b4, c6, .fr (celT z), .fr (.int (at_ : Int)), .fr (.int v3), .fr (.str p), .fr (.bl false), c12, .no]) (i := 12) (ev_int (i := 0)) (by decide)
  have allOk : ∀ x ∈ celS ds, ∀ s ∈ x, StrOk s := fun x hx => cel_ok gd hx
  obtain ⟨hx1, hx2⟩ := hxm ds z gd
  by_cases hz : z ∈ celS ds
  · obtain ⟨k, hk⟩ := List.getElem?_of_mem hz
    refine ⟨b4, _, _, _, _, .fr (.bl false), .fr (.int (k : Int)), hb4, ex_seq s1 (ex_seq s2 (ex_seq s3 (ex_seq s4 (ex_seq s5 (ex_seq s6 (ex_seq s7 (ex_seq s8 (ex_seq (ex_tryN fun W => ex_set (i := 12) (ev_methXF (fs := spF ds) (ds := [celT z]) (ev_var (i := 2) rfl) (by rfl) (ag_cons (ev_var (i := 7) rfl) ag_nil) (hx1 k hk)) (by decide)) (ex_ifF (ts_orF (ts_is (ts_test (ev_neB (ev_var (i := 11) (d := .bl false) rfl) (ev_notInX EqT.str.tup (by decide) (a := z) (as := celS ds) zok allOk (ev_var (i := 7) rfl) (ev_var (i := 3) rfl).rd))) ?_) (ts_is (ts_andT (ts_not (ts_truB (b := false) (ev_var (i := 11) rfl))) (ts_test (ev_neI (ev_i1 (i := 12) (n := (k : Int)) rfl) (ev_indexL EqT.str.tup (by decide) (a := z) (as := celS ds) zok allOk hz (ev_var (i := 3) rfl) (ev_var (i := 7) rfl))))) ?_)) ex_next)))))))))⟩
    · simp [hz]
    · rw [idx_at (celS_nd gd) hk]
      simp
  · refine ⟨b4, _, _, _, _, .fr (.bl true), .fr (.int 0), hb4, ex_seq s1 (ex_seq s2 (ex_seq s3 (ex_seq s4 (ex_seq s5 (ex_seq s6 (ex_seq s7 (ex_seq s8 (ex_seq (ex_tryX (e := ⟨.ref Ce, none⟩) (o := .nx [c0, .fr (dimsD ds), .fr (spD C ds), .fr (.lst ((celS ds).map celT)), c4, .own b4, c6, .fr (celT z), .fr (.int (at_ : Int)), .fr (.int v3), .fr (.str p), .fr (.bl true), .fr (.int 0), .no]) (fun W => xx_asg (ex_methX (fs := spF ds) (ds := [celT z]) (ev_var (i := 2) rfl) (by rfl) (ag_cons (ev_var (i := 7) rfl) ag_nil) (hx2 hz))) em (by decide) (by show 13 < 14; decide) fun a d => su_seq (ex_set (i := 11) ev_bl (by decide)) (su_ifF (te_or (te_not (te_isG k1)) fun _ => te_isG k2) (su_of ex_next))) (ex_ifF (ts_orF (ts_is (ts_test (ev_neB (ev_var (i := 11) (d := .bl true) rfl) (ev_notInX EqT.str.tup (by decide) (a := z) (as := celS ds) zok allOk (ev_var (i := 7) rfl) (ev_var (i := 3) rfl).rd))) ?_) (ts_andF (ts_not (ts_truB (b := true) (ev_var (i := 11) rfl))))) ex_next)))))))))⟩
    simp [hz]
theorem turns (hxm : CCelX C Ce Rx RX) (hpa : CPath Rpa) (hd : Spec Rd PreDraw PostDraw) (em : PySem.W.exmOne K (.ref Ce) (.ref Cb) = some true) (k1 : PySem.W.kitOne K (.ref Ce) (.ref Ce) = some true) (k2 : PySem.W.kitOne K (.ref Ce) (.ref Cn) = some false)
    {ds : List Dm} (gd : GoodDs ds) {c0 c4 : Cell} : ∀ (n m : Nat) (b : List D) (c6 c7 c8 c9 c10 c11 c12 : Cell), GoodBox b → ∃ ρ2, LoopZ K [] (gName 6) (b2 K Rsp Rc Rco Rpt Rx RX Rpa Rb Rcs Rd Rlp Rs Rwd Cb Ce Cn C) [6] (rangeD (m : Int) n) [c0, .fr (dimsD ds), .fr (spD C ds), .fr (.lst ((celS ds).map celT)), c4, .own b, c6, c7, c8, c9, c10, c11, c12, .no] (.nx ρ2)
  | 0, m, b, c6, c7, c8, c9, c10, c11, c12, _ => ⟨_, .nil⟩
  | n + 1, m, b, c6, c7, c8, c9, c10, c11, c12, hb => by
    rw [rangeD_cons]
    obtain ⟨b', d7, d8, d9, d10, d11, d12, hb', h⟩ := turn (K := K) (Rsp := Rsp) (Rc := Rc) (Rco := Rco) (Rpt := Rpt) (Rb := Rb) (Rcs := Rcs) (Rlp := Rlp) (Rs := Rs) (Rwd := Rwd) hxm hpa hd em k1 k2 gd (c0 := c0) (c4 := c4) (c6 := .fr (.int (m : Int))) b hb c7 c8 c9 c10 c11 c12
    obtain ⟨ρ2, q⟩ := turns hxm hpa hd em k1 k2 gd (c0 := c0) (c4 := c4) n (m + 1) b' (.fr (.int (m : Int))) d7 d8 d9 d10 d11 d12 hb'
    exact ⟨ρ2, .step tg_name h q⟩
namespace K01
end K01
end
end Z

set_option Elab.async false
set_option linter.all false
set_option maxRecDepth 100000
set_option maxHeartbeats 2000000
/-! Law06c: the ways, all groupings, the law k06. -/
namespace Z
open PySem PySem.Spec PyProof.Rows L2
open Evl (Ex Ex.refl Ex.trans Ex.new ex_rd ex_l ex_t sq_of st_of fresh_back sz_of sz_lt)
section
variable {K : PySem.W.Frag} {C Cb Ce Cg : Addr} {ρ ρ1 ρ2 ρ3 : Rho} {ta tb te : TE} {ds es : List D}
/-! ### choices of more rows -/
/-! ### all groupings -/
end
end Z

set_option Elab.async false
set_option linter.all false
set_option maxRecDepth 100000
set_option maxHeartbeats 2000000
/-! Law16b: the law k16, its meaning. -/
namespace Z
open PySem PySem.Spec PyProof.Rows L2
open Evl (Ex Ex.refl Ex.trans Ex.new ex_rd ex_l ex_t sq_of st_of fresh_back sz_of sz_lt)
namespace K16
end K16
section
variable {K : PySem.W.Frag} {C Ce Cb : Addr} {Rsp Ram Rb Rct Rd Rfc Rfa Rq Rrf Rrw Rs Rso Rwd Raf Rsu Rt Rv : Rel}
namespace K16
end K16
end
end Z

set_option Elab.async false
set_option linter.all false
set_option maxRecDepth 100000
set_option maxHeartbeats 2000000
/-! ZTxt: startswith, removeprefix, int(text), try: .. except C: .. with a quiet body. -/
namespace Z
open PySem PySem.Spec PyProof.Rows L2
open Evl (Ex Ex.refl Ex.trans Ex.new ex_rd ex_l ex_t sq_of st_of fresh_back sz_of sz_lt)
abbrev rIntT : List V → Hp → VK → Prop := fun l G R => ∃ (p : Str) (i : Int), l = [V.str p] ∧ PySem.intText? p = some i ∧ p.length ≤ 640 ∧ R (V.int i) G
theorem intT_is {X : Cx} : CallR X (.type "int") rIntT := call_int_str
section
variable {K : PySem.W.Frag} {S : List Nat} {ρ ρ1 ρ2 : Rho} {ta tb te : TE} {o : Out}
theorem ev_intT {a : Str} {i : Int} (ha : EvZ K te ρ ρ1 (.str a)) (hi : PySem.intText? a = some i) (hl : a.length ≤ 640) : EvZ K (tCB rIntT (tCons te tNil)) ρ ρ1 (.int i) := fun M G H σ s Q q =>
  ha M G H σ s _ fun u G1 H1 g1 s1 du => ⟨a, i, by rw [du.str_inv], hi, hl, q _ G1 H1 g1 s1 (.int _)⟩
end
/-! ### texts by their signs -/
theorem tl_neg (n : Nat) : (Str.ofString (toString (Int.negSucc n))).cps.toList = 45 :: TL.numL (n + 1) := by
  have e : toString (Int.negSucc n) = "-" ++ toString (((n + 1 : Nat) : Int)) := rfl
  have z := TL.tl_num (n + 1)
  have z2 := TL.tl_ofString (toString ((n + 1 : Nat) : Int))
  have z3 := TL.tl_ofString (toString (Int.negSucc n))
  rw [z2] at z
  show TL.tl _ = _
  rw [z3, e, String.toList_append, List.map_append, z]
  rfl
end Z

set_option Elab.async false
set_option linter.all false
set_option maxRecDepth 100000
set_option maxHeartbeats 2000000
/-! ZEnumS: for i, x in enumerate(xs, start=k), xs a list. -/
namespace Z
open PySem PySem.Spec PyProof.Rows L2
open Evl (Ex Ex.refl Ex.trans Ex.new ex_rd ex_l ex_t sq_of st_of fresh_back sz_of sz_lt)
section
variable {K : PySem.W.Frag} {ρ ρ' ρ1 : Rho} {tx tk : TA} {ds : List D}
end
end Z

set_option Elab.async false
set_option linter.all false
set_option maxRecDepth 100000
set_option maxHeartbeats 2000000
/-! Law20: the law k20, what its rows come to. -/
namespace Z
open PySem PySem.Spec PyProof.Rows L2
open Evl (Ex Ex.refl Ex.trans Ex.new ex_rd ex_l ex_t sq_of st_of fresh_back sz_of sz_lt)
namespace K20
section
variable {K : PySem.W.Frag}
/-! ### texts -/
def Sm (i : Int) : Prop := -1000000000000 ≤ i ∧ i ≤ 1000000000000
theorem Sm.bd {i : Int} (h : Sm i) : Bd 4000 i := by
  have : Bd 40 i := by
    unfold Bd
    have e : (2 : Nat) ^ 40 = 1099511627776 := by decide
    rw [e]
    have := h.1
    have := h.2
    omega
  exact this.mono (by decide)
def txt (p : Int × Int) : Str := if p.2 = 1 then Str.ofString (toString p.1) else Str.ofString (toString p.1) ++ "/" ++ Str.ofString (toString p.2)
def CTxt (R : Rel) : Prop := ∀ p : Int × Int, Sm p.1 → Sm p.2 → R [.fr (frD p)] (.fr (.str (txt p))) [.fr (frD p)]
/-! ### as_fractions, _law_lower -/
def CAs (R : Rel) : Prop := ∀ is : List Int, is.length ≤ 1000 → R [.fr (.tup (is.map .int))] (.fr (.tup (is.map fun i => frD (i, 1)))) [.fr (.tup (is.map .int))]
def CLow (R : Rel) : Prop := ∀ b : List D, GoodBox b → ∃ (v : Int) (b' : List D), GoodBox b' ∧ Sm v ∧ v ≠ 0 ∧ R [.own b] (.fr (.int v)) [.own b']
/-! ### the law -/
def CBox (R : Rel) : Prop := ∀ (ns : List Int) (k : Nat), k ≤ 1000000 → ∃ b, GoodBox b ∧ R [.fr (.lst (ns.map .int)), .fr (.int (k : Int))] (.own b) [.fr (.lst (ns.map .int)), .fr (.int (k : Int))]
def CSame (R : Rel) : Prop := ∀ d : D, Plain 3 d → R [.fr d, .fr d] (.fr (.bl true)) [.fr d, .fr d]
section
variable {Rb Rlf Rl Rn Rs Rt Ra Rw Rf Rx Rm Ro Rp Rti : Rel}
variable (hb : CBox Rb) (hlf : CFr Rlf) (hl : CLow Rl) (hn : CNumb Rn) (hs : CSame Rs) (ht : CTxt Rt) (ha : CAs Ra) (hw : CBelow Rw) (hf : CFr Rf) (hx : CTxt Rx) (hm : CMinus Rm) (ho : COver Ro) (hp : CPlus Rp) (hti : CTimes Rti)
end
end
end K20
end Z

set_option Elab.async false
set_option linter.all false
set_option maxRecDepth 100000
set_option maxHeartbeats 2000000
/-! Law14: numerals, texts of facts. -/
namespace Z
open PySem PySem.Spec PyProof.Rows L2
open Evl (Ex Ex.refl Ex.trans Ex.new ex_rd ex_l ex_t sq_of st_of fresh_back sz_of sz_lt)
def e_is_numeral_1 (K : PySem.W.Frag) (c_DIGITS : V) : TE :=
  (tOp rInSg (tVar 1) (tC c_DIGITS))
def t_is_numeral (K : PySem.W.Frag) (c_DIGITS : V) : TS :=
  (tSeq (tIfS (tOr (tTest (tOp rEq (tVar 0) (tC (.str "")))) (tNot (tB (tCB (rAll K) (tCons (tLc (iStr (tVar 0)) (gName 1) tYes (e_is_numeral_1 K c_DIGITS) [1]) tNil))))) (tRet (tC (.bl false))) tNext)
      (tRet (tOrV (tOp rEq (tVar 0) (tC (.str "0"))) (tOp rNe (tOp (rIx K) (tVar 0) (tC (.int 0))) (tC (.str "0"))))))

namespace K14
end K14
/-! ### numerals -/
def dgS : Str := "0123456789"
def digB (c : Nat) : Bool := decide (48 ≤ c) && decide (c ≤ 57)
theorem dig_mem (c : Nat) : decide (c ∈ dgS.cps.toList) = digB c := by
  have e : dgS.cps.toList = [48, 49, 50, 51, 52, 53, 54, 55, 56, 57] := by decide
  rw [e]
  unfold digB
  by_cases h : 48 ≤ c ∧ c ≤ 57
  · rw [decide_eq_true h.1, decide_eq_true h.2]
    simp only [Bool.and_self, decide_eq_true_eq, List.mem_cons, List.not_mem_nil, or_false]
    omega
  · have : ¬ c ∈ [48, 49, 50, 51, 52, 53, 54, 55, 56, 57] := fun z => by
      simp only [List.mem_cons, List.not_mem_nil, or_false] at z
      omega
    rw [decide_eq_false this]
    by_cases h1 : 48 ≤ c
    · rw [decide_eq_true h1, decide_eq_false (fun z => h ⟨h1, z⟩)]; rfl
    · rw [decide_eq_false h1]; rfl
def numB (l : List Nat) : Bool := !decide (l = []) && l.all digB && (decide (l = [48]) || !decide (l.head? = some 48))
theorem str_iff {a b : Str} : a = b ↔ a.cps.toList = b.cps.toList := ⟨fun h => by rw [h], fun h => by
  cases a
  cases b
  rw [Str.mk.injEq]
  exact Array.toList_inj.mp h⟩
section
variable {K : PySem.W.Frag} {C Ce : Addr}
theorem ev_neZ {ρ ρ1 ρ2 : Rho} {ta tb : TE} {i j : Str} (ha : EvZ K ta ρ ρ1 (.str i)) (hb : EvZ K tb ρ1 ρ2 (.str j)) : EvZ K (tOp rNe ta tb) ρ ρ2 (.bl (!decide (i = j))) :=
  ev_op ha hb.rd fun u v G H Q _ du dv q => by
    rw [du.str_inv, dv.str_inv]
    exact ⟨rfl, q _ (by rw [show decide (V.str i = V.str j) = decide (i = j) by simp]; exact .bl _)⟩
def CNm (R : Rel) : Prop := ∀ z : Str, z.length ≤ 90000 → R ([.str z].map .fr) (.fr (.bl (numB z.cps.toList))) ([.str z].map .fr)
theorem rel_nm {cD : V} (hD : ∀ H, Dz K H cD (.str dgS)) : CNm (RelOf K [] (t_is_numeral K cD) 2 1) := fun z hz => by
  have hl : z.length = z.cps.toList.length := (Array.length_toList).symm
  have e0 : decide (z = "") = decide (z.cps.toList = []) := by
    have e : (("" : Str)).cps.toList = [] := by decide
    by_cases h : z.cps.toList = []
    · rw [decide_eq_true h, decide_eq_true (str_iff.mpr (by rw [e]; exact h))]
    · rw [decide_eq_false h, decide_eq_false (fun k => h (by rw [k, e]))]
  have e1 : decide (z = "0") = decide (z.cps.toList = [48]) := by
    have e : (("0" : Str)).cps.toList = [48] := by decide
    by_cases h : z.cps.toList = [48]
    · rw [decide_eq_true h, decide_eq_true (str_iff.mpr (by rw [e]; exact h))]
    · rw [decide_eq_false h, decide_eq_false (fun k => h (by rw [k, e]))]
  have hc : CompZ K (gName 1) tYes (e_is_numeral_1 K cD) [1] [1] (signsD z) [.fr (.str z), .no] ((z.cps.toList.map digB).map D.bl) [.fr (.str z), .no] := by
    rw [List.map_map]
    refine comp_mapA (K := K) (ρ := [.fr (.str z), .no]) (j := 1) (fun c => D.str ⟨#[c]⟩) _ rfl z.cps.toList fun c _ => ?_
    show EvZ K _ _ _ (.bl (digB c))
    rw [← dig_mem]
    exact ev_inSg (ev_var (i := 1) rfl) (ev_c hD)
  have ht : TsZ K (tOr (tTest (tOp rEq (tVar 0) (tC (.str "")))) (tNot (tB (tCB (rAll K) (tCons (tLc (iStr (tVar 0)) (gName 1) tYes (e_is_numeral_1 K cD) [1]) tNil))))) [.fr (.str z), .no] [.fr (.str z), .no] (decide (z.cps.toList = []) || !z.cps.toList.all digB) := by
    rw [← e0]
    refine ts_or (ts_test (ev_eqS (ev_var (i := 0) rfl) ev_str)) fun _ => ts_is (ts_not (ts_B (ev_all (bs := z.cps.toList.map digB) (EvN.rd (en_lc (it_str (ev_var (i := 0) rfl)) hc (by decide) (by unfold signsD; rw [List.length_map]; omega)))))) (by rw [List.all_map]; rfl)
  by_cases h : (decide (z.cps.toList = []) || !z.cps.toList.all digB) = true
  · have e : numB z.cps.toList = false := by
      unfold numB
      revert h
      cases decide (z.cps.toList = []) <;> cases z.cps.toList.all digB <;> simp
    rw [e]
    exact rel_rt (ds := [.str z]) ⟨_, ex_seqR (ex_ifT (ts_is ht h) (ex_ret ev_bl))⟩
  · have hn : z.cps.toList ≠ [] := fun k => h (by rw [decide_eq_true k]; rfl)
    have e : numB z.cps.toList = (decide (z.cps.toList = [48]) || !decide (z.cps.toList.head? = some 48)) := by
      unfold numB
      revert h
      cases decide (z.cps.toList = []) <;> cases z.cps.toList.all digB <;> simp
    rw [e]
    obtain ⟨c, r, ec⟩ := List.exists_cons_of_ne_nil hn
    have e2 : (!decide ((⟨#[c]⟩ : Str) = "0")) = !decide (z.cps.toList.head? = some 48) := by
      rw [ec, List.head?_cons]
      have e : (("0" : Str)).cps.toList = [48] := by decide
      by_cases k : c = 48
      · subst k
        rw [decide_eq_true (str_iff.mpr (by rw [e])), decide_eq_true rfl]
      · rw [decide_eq_false (fun q => k (by
          have q' := str_iff.mp q
          rw [e] at q'
          exact (List.cons.inj q').1)), decide_eq_false (fun q => k (Option.some.inj q))]
    have hat : atI z.cps.toList ((0 : Nat) : Int) = some c := atI_nat (by rw [ec]; rfl)
    have hx : EvZ K (tOrV (tOp rEq (tVar 0) (tC (.str "0"))) (tOp rNe (tOp (rIx K) (tVar 0) (tC (.int 0))) (tC (.str "0")))) [.fr (.str z), .no] [.fr (.str z), .no] (.bl (decide (z.cps.toList = [48]) || !decide (z.cps.toList.head? = some 48))) := by
      rw [← e1, ← e2]
      exact ev_orV (ev_eqS (ev_var (i := 0) rfl) ev_str) fun _ => ev_neZ (ev_ixS (i := 0) (z := z) (c := c) (ev_var (i := 0) rfl) ev_int (by omega) hat) ev_str
    exact rel_rt (ds := [.str z]) ⟨_, ex_seq (ex_ifF (ts_is ht (Bool.eq_false_iff.mpr h)) ex_next) (ex_ret hx)⟩
end
/-! ### lines -/
def numS (v : Int) : Str := toString v
theorem digs_all {l : List Nat} (h : NumText.AllDigits l) : l.all digB = true := by
  rw [List.all_eq_true]
  intro c hc
  have := h c hc
  unfold digB
  rw [decide_eq_true this.1, decide_eq_true this.2]
  rfl
theorem numL_head : ∀ n : Nat, 1 ≤ n → (TL.numL n).head? ≠ some 48 := by
  intro n
  induction n using Nat.strongRecOn with
  | _ n ih =>
    intro hn
    by_cases h : n < 10
    · rw [TL.numL_lt h, List.head?_cons]
      intro e
      have := Option.some.inj e
      omega
    · rw [TL.numL_step (by omega)]
      have := ih (n / 10) (by omega) (by omega)
      cases e : TL.numL (n / 10) with
      | nil => exact absurd e (TL.numL_ne _)
      | cons a l => rw [e] at this; exact this
theorem numB_num (n : Nat) : numB (TL.numL n) = true := by
  unfold numB
  rw [decide_eq_false (TL.numL_ne n), digs_all (TL.numL_digits n)]
  by_cases h : n = 0
  · subst h
    rfl
  · rw [decide_eq_false (numL_head n (by omega))]
    simp
theorem numS_tl (v : Int) : (0 ≤ v → (numS v).cps.toList = TL.numL v.toNat) ∧ (v < 0 → (numS v).cps.toList = 45 :: TL.numL (-v).toNat) := by
  constructor
  · intro h
    obtain ⟨n, rfl⟩ := Int.eq_ofNat_of_zero_le h
    exact TL.tl_num n
  · intro h
    obtain ⟨n, rfl⟩ := Int.eq_negSucc_of_lt_zero h
    exact tl_neg n
/-! ### facts_text -/
theorem sum_le {l : List Str} {b : Nat} (h : ∀ s ∈ l, s.length ≤ b) : (l.map (·.length)).sum ≤ l.length * b := by
  induction l with
  | nil => simp
  | cons x l ih =>
    have := ih fun s hs => h s (List.mem_cons_of_mem _ hs)
    have := h x List.mem_cons_self
    rw [List.map_cons, List.sum_cons, List.length_cons, Nat.add_mul]
    omega
theorem join_le {y : Str} {l : List Str} {b : Nat} (h : ∀ s ∈ l, s.length ≤ b) : (Txt.join y l).length ≤ l.length * (b + y.length) := by
  rw [TL.join_eq]
  have := StrLaws.join_length_le y l
  have := sum_le h
  rw [Nat.mul_add]
  omega
section
variable {K : PySem.W.Frag} {C Ce : Addr}
/-! ### facts_of -/
theorem atI_last {xs : List D} {x : D} : atI (xs ++ [x]) (-1) = some x := by
  have e : ixN (xs ++ [x]).length (-1) = some xs.length := by
    unfold ixN
    rw [if_neg (by decide), List.length_append, List.length_cons, List.length_nil]
    simp
    omega
  unfold atI
  rw [e]
  simp
end
end Z

set_option Elab.async false
set_option linter.all false
set_option maxRecDepth 100000
set_option maxHeartbeats 2000000
/-! LawRd: the reader of expressions, on tokens that it reads. -/
namespace Z
open PySem PySem.Spec PyProof.Rows L2
open Evl (Ex Ex.refl Ex.trans Ex.new ex_rd ex_l ex_t sq_of st_of fresh_back sz_of sz_lt)
def t_Reader___init__ (K : PySem.W.Frag) : TS :=
  (tSeq (sFld K (tVar 0) (tVar 1) "_tokens")
      (tSeq (sFld K (tVar 0) (tC (.int 0)) "_read")
      (sFld K (tVar 0) (tC (.int 0)) "_held")))

def t_Reader__peek (K : PySem.W.Frag) : TS :=
  (tRet (tIf (tTest (tOp rLtI (tFld K (tVar 0) "_read") (tCB (rLenX K) (tCons (tFld K (tVar 0) "_tokens") tNil)))) (tOp (rIx K) (tFld K (tVar 0) "_tokens") (tFld K (tVar 0) "_read")) (tC (.str ""))))

def t_Reader__take (K : PySem.W.Frag) (R_Reader__peek : Rel) (C_Reader : Addr) : TS :=
  (tSeq (tAsg (tMeth C_Reader "_peek" (SpZ K R_Reader__peek) [] E0 (tVar 0) tNil) (gName 1))
      (tSeq (sFldAug K (tVar 0) (tC (.int 1)) rAdd "_read")
      (tRet (tVar 1))))

def t_Reader__skip (K : PySem.W.Frag) (R_Reader__peek : Rel) (R_Reader__take : Rel) (C_Reader : Addr) : TS :=
  (tSeq (tIfS (tTest (tOp rNe (tMeth C_Reader "_peek" (SpZ K R_Reader__peek) [] E0 (tVar 0) tNil) (tVar 1))) (tRet (tC (.bl false))) tNext)
      (tSeq (tDrop (tMeth C_Reader "_take" (SpZ K R_Reader__take) [] E0 (tVar 0) tNil))
      (tRet (tC (.bl true)))))

namespace K13
end K13
abbrev rdF (ts : List Str) (r h : Nat) : List (Str × D) := [("_tokens", .tup (ts.map .str)), ("_read", .int (r : Int)), ("_held", .int (h : Int))]
abbrev rdM (C : Addr) (ts : List Str) (r h : Nat) : MO := .ins C (rdF ts r h)
def rdNames : List Str := ["_tokens", "_read", "_held"]
def hdT (ts : List Str) (r : Nat) : Str := (ts.drop r).headD ""
section
variable {K : PySem.W.Frag} {C : Addr} {S : List Nat}
theorem rel_mrt {t : TS} {n : Nat} {a b : MO} {ds : List D} {d : D} (h : ∃ ρ2, ExZ K [0] t (.mu a :: ds.map .fr ++ List.replicate (n - (ds.length + 1)) .no) (.rt ρ2 (.fr d)) ∧ ρ2[0]? = some (.mu b)) : RelOf K [0] t n (ds.length + 1) (.mu a :: ds.map .fr) (.fr d) (.mu b :: ds.map .fr) := by
  obtain ⟨ρ2, h1, h2⟩ := h
  exact ⟨by rw [List.length_cons, List.length_map], ρ2, .inl h1, fin_mu (by decide) h2⟩
theorem rel_mnx {t : TS} {n : Nat} {a b : MO} {ds : List D} (h : ∃ ρ2, ExZ K [0] t (.mu a :: ds.map .fr ++ List.replicate (n - (ds.length + 1)) .no) (.nx ρ2) ∧ ρ2[0]? = some (.mu b)) : RelOf K [0] t n (ds.length + 1) (.mu a :: ds.map .fr) (.fr .non) (.mu b :: ds.map .fr) := by
  obtain ⟨ρ2, h1, h2⟩ := h
  exact ⟨by rw [List.length_cons, List.length_map], ρ2, .inr ⟨rfl, h1⟩, fin_mu (by decide) h2⟩
def CRi (C : Addr) (R : Rel) : Prop := ∀ ts : List Str, R [.mu (.ins C []), .fr (.tup (ts.map .str))] (.fr .non) [.mu (rdM C ts 0 0), .fr (.tup (ts.map .str))]
theorem rel_ri (c : Cls K C) (na : ∀ f ∈ rdNames, NoAttr K C f) : CRi C (RelOf K [0] (t_Reader___init__ K) 2 2) := fun ts =>
  rel_mnx (ds := [.tup (ts.map .str)]) ⟨_, ex_seq (ex_fld (fs0 := []) c (na "_tokens" (by decide)) (ev_var (i := 1) rfl) rfl (by decide)) (ex_seq (ex_fld (fs0 := []) c (na "_read" (by decide)) ev_int rfl (by show 1 < 1000; decide)) (ex_fld (fs0 := []) c (na "_held" (by decide)) ev_int rfl (by show 2 < 1000; decide))), rfl⟩
def CPk (C : Addr) (R : Rel) : Prop := ∀ (ts : List Str) (r h : Nat), R [.mu (rdM C ts r h)] (.fr (.str (hdT ts r))) [.mu (rdM C ts r h)]
theorem rel_pk (c : Cls K C) (na : ∀ f ∈ rdNames, NoAttr K C f) : CPk C (RelOf K [0] (t_Reader__peek K) 1 1) := fun ts r h => by
  have er : EvZ K (tFld K (tVar 0) "_read") [.mu (rdM C ts r h)] [.mu (rdM C ts r h)] (.int (r : Int)) := ev_fldO (i := 0) (fs := rdF ts r h) c (na "_read" (by decide)) rfl (by rfl)
  have et : EvZ K (tFld K (tVar 0) "_tokens") [.mu (rdM C ts r h)] [.mu (rdM C ts r h)] (.tup (ts.map .str)) := ev_fldO (i := 0) (fs := rdF ts r h) c (na "_tokens" (by decide)) rfl (by rfl)
  have tt := ts_test (ev_lt er (ev_lenT et.rd))
  by_cases hl : r < ts.length
  · have e : hdT ts r = ts[r] := by
      unfold hdT
      rw [List.drop_eq_getElem_cons hl]
      rfl
    rw [e]
    exact rel_mrt (ds := []) ⟨_, ex_ret (ev_ifT (ts_is tt (decide_eq_true (by rw [List.length_map]; omega))) (ev_ixT et er (at_nat (j := r) (by rw [List.getElem?_map, List.getElem?_eq_getElem hl]; rfl)))), rfl⟩
  · have e : hdT ts r = "" := by
      unfold hdT
      rw [List.drop_eq_nil_of_le (by omega)]
      rfl
    rw [e]
    exact rel_mrt (ds := []) ⟨_, ex_ret (ev_ifF (ts_is tt (decide_eq_false (by rw [List.length_map]; omega))) ev_str), rfl⟩
def CTk (C : Addr) (R : Rel) : Prop := ∀ (ts : List Str) (r h : Nat), R [.mu (rdM C ts r h)] (.fr (.str (hdT ts r))) [.mu (rdM C ts (r + 1) h)]
theorem rel_tk {Rp : Rel} (c : Cls K C) (na : ∀ f ∈ rdNames, NoAttr K C f) (hp : CPk C Rp) : CTk C (RelOf K [0] (t_Reader__take K Rp C) 2 1) := fun ts r h => by
  have s1 : ExZ K [0] (tAsg (tMeth C "_peek" (SpZ K Rp) [] E0 (tVar 0) tNil) (gName 1)) [.mu (rdM C ts r h), .no] (.nx [.mu (rdM C ts r h), .fr (.str (hdT ts r))]) :=
    ex_set (i := 1) (ev_methM (ds := []) (i := 0) (fs0 := rdF ts r h) rfl (by rfl) ag_nil rfl (hp ts r h)) (by decide)
  have s2 : ExZ K [0] (sFldAug K (tVar 0) (tC (.int 1)) rAdd "_read") [.mu (rdM C ts r h), .fr (.str (hdT ts r))] (.nx [.mu (rdM C ts (r + 1) h), .fr (.str (hdT ts r))]) :=
    ex_fldaug (i := 0) (fs := rdF ts r h) (a := (r : Int)) (b := 1) (r := ((r + 1 : Nat) : Int)) c (na "_read" (by decide)) rfl (by rfl) ev_int (by decide : 3 < 1000) fun H Q q => ⟨(r : Int), 1, rfl, rfl, by
      rw [show (r : Int) + 1 = ((r + 1 : Nat) : Int) by omega]
      exact q⟩
  exact rel_mrt (ds := []) ⟨_, ex_seq s1 (ex_seq s2 (ex_ret (ev_var (i := 1) rfl))), rfl⟩
def CSk (C : Addr) (R : Rel) : Prop := ∀ (ts : List Str) (r h : Nat) (t : Str), R [.mu (rdM C ts r h), .fr (.str t)] (.fr (.bl (decide (hdT ts r = t)))) [.mu (rdM C ts (if hdT ts r = t then r + 1 else r) h), .fr (.str t)]
theorem rel_sk {Rp Rt : Rel} (hp : CPk C Rp) (ht : CTk C Rt) : CSk C (RelOf K [0] (t_Reader__skip K Rp Rt C) 2 2) := fun ts r h t => by
  have e1 : EvZ K (tMeth C "_peek" (SpZ K Rp) [] E0 (tVar 0) tNil) [.mu (rdM C ts r h), .fr (.str t)] [.mu (rdM C ts r h), .fr (.str t)] (.str (hdT ts r)) := ev_methM (ds := []) (i := 0) (fs0 := rdF ts r h) rfl (by rfl) ag_nil rfl (hp ts r h)
  have tt := ts_test (K := K) (ev_neZ e1 (ev_var (i := 1) rfl))
  by_cases k : hdT ts r = t
  · rw [if_pos k, decide_eq_true k]
    exact rel_mrt (ds := [.str t]) ⟨_, ex_seq (ex_ifF (ts_is tt (by rw [decide_eq_true k]; rfl)) ex_next) (ex_seq (ex_drop (ev_methM (ds := []) (i := 0) (fs0 := rdF ts r h) rfl (by rfl) ag_nil rfl (ht ts r h))) (ex_ret ev_bl)), rfl⟩
  · rw [if_neg k, decide_eq_false k]
    exact rel_mrt (ds := [.str t]) ⟨_, ex_seqR (ex_ifT (ts_is tt (by rw [decide_eq_false k]; rfl)) (ex_ret ev_bl)), rfl⟩
/-! ### paths, conditions -/
end
/-! ### the sum alone -/
namespace K13
section
variable {K : PySem.W.Frag} {C : Addr}
end
end K13
end Z

set_option Elab.async false
set_option linter.all false
set_option maxRecDepth 100000
set_option maxHeartbeats 2000000
/-! ZExm: methods of the frame's own instance that may raise; a while in which a turn raises; the two ends of a method joined. -/
namespace Z
open PySem PySem.Spec PyProof.Rows L2
open Evl (Ex Ex.refl Ex.trans Ex.new ex_rd ex_l ex_t sq_of st_of fresh_back sz_of sz_lt)
theorem zmex_none {P : Program} {w : World} {K : PySem.W.Frag} {mg : Str → Option Value} {base : Heap} {x m qual : Str} {st : Stmt} {f C : Addr} {fd : FuncData} {ps : List Str} (F : Fun K x qual st f fd) (hm : Meth K C m f) (b : Binds K fd ps []) (k : Nat) :
    Zmex P w K mg base k C m ps (fun _ _ _ => False) (fun _ _ _ => False) :=
  ⟨f, fd, ⟨fun vs H Q E h => by
    rcases h with h | h
    · obtain ⟨_, _, _, _, _, _, h, _⟩ := h; exact h.elim
    · obtain ⟨_, _, _, _, _, _, h, _⟩ := h; exact h.elim, fun A outer s H args us vs Q E hr he hb hv h => by
    rcases h with h | h
    · obtain ⟨_, _, _, _, _, _, h, _⟩ := h; exact h.elim
    · obtain ⟨_, _, _, _, _, _, h, _⟩ := h; exact h.elim⟩, hm, b, Fun.look F⟩
section
variable {X : Cx} {k j : Nat} {m : Str} {C : Addr} {ps : List Str} {R : Rel} {RX : RelX} {o : Expr} {pos apos : Pos} {to : TE} {W : WX}
theorem pe_meth0X {pl : Sem Bool} (G : Zmex X.prog X.w X.K X.mg X.base k C m ps R RX) (c : Cls X.K C) (hr : Room j X.A) (hk : k ≤ j) (tk : L2N.Takes X W) (ho : PE X o to)
    (ht : eval (.Call (.Attribute o m apos) [] [] pos) X.env = (do
      let v0 ← eval o X.env
      standAt apos.atName
      let (g, fst) ← holding [v0] (getMethod v0 m pl)
      callWith pos g fst (backTo pos (starEach [] X.env)) (backToKw pos (keywordEach [] X.env))) := by rfl) :
    PE X (.Call (.Attribute o m apos) [] [] pos) (tMethX C m (SpX X.K R RX) W to tNil) := by
  obtain ⟨f, fd, F, hm, hb, _⟩ := G.ex
  refine ⟨fun pins s σ H Q I h => PySem.W.methodCall_KW (pl := pl) (thn (ho.run pins s σ H _ I h) fun u s1 w1 => ?_) ht⟩
  obtain ⟨y, H1, I1, ry, a, dx, fs, ey, ea, hl, q⟩ := w1
  subst ey
  obtain rfl : u = Value.ref a := ry
  refine getmeth_ok I1 ea c hm hl (PySem.W.callWith_K0 (first := [.ref a]) I1.kIn hm.kp ?_)
  exact run_fnS (us := [.ref a]) (vs := [.ref a]) F (hr.mono hk) hb (L2N.passAt tk σ) I1 (.cons rfl .nil) q
end
section
variable {K : PySem.W.Frag} {S : List Nat} {W : WX} {ρ ρ' ρ1 ρ2 : Rho} {ta : TE} {tt : TT} {tb : TS} {tx : TA} {ds : List D} {d : D} {e : Exn} {R : Rel} {RX : RelX} {C : Addr} {m : Str}
theorem Sim.no {M : MS} {G H : Hp} {σ : L2.St} (s : Sim K M G H σ ρ) (i : Nat) : Sim K M G H σ (ρ.set i .no) :=
  Sim.forget s (by rw [List.length_set]) fun j c h => by
    rcases get_set h with ⟨_, z, _⟩ | ⟨_, h⟩
    · exact .inl z
    · exact .inr h
/-- a call that raises, the frame's own instance first: what it is then is not known -/
theorem ex_callSM {E : L2.St → XK} {i : Nat} {b1 : MO} {sp : Sp} {vs : List V} {M : MS} {G H : Hp} {σ : L2.St} {p : Addr} (s : Sim K M G H σ ρ) (h : ρ[i]? = some (.mu b1)) (hp : σ[i]? = some (some (.ref p))) (dv : Dzs K G vs ds) :
    Sim K (fun a => a = p) G H ((V.ref p :: vs).map some) (.mu b1 :: ds.map .fr) ∧ (∀ G' H', Grow (fun a => a = p) G H G' H' → Ex G' H' → Sim K M G' H' σ (ρ.set i .no) ∧ Grow M G H G' H') := by
  obtain ⟨p1, o1, e1, m1, g1, h1, d1⟩ := s.mu h
  rw [hp] at e1
  cases e1
  have sa := sim_args (K := K) dv s.sub
  refine ⟨⟨by rw [List.map_cons, List.length_cons, List.length_cons, sa.len], s.sub, fun {j d} h => ?_, fun {j d} h => ?_, fun {j k d e q} ne h2 h3 h4 h5 => ?_⟩, fun G' H' g sb => ⟨?_, ?_⟩⟩
  · cases j with
    | zero => exact absurd (show some (Cell.mu b1) = some (Cell.fr d) from h) (by simp)
    | succ j => exact sa.fr (i := j) h
  · cases j with
    | zero =>
      have z : some (Cell.mu b1) = some (Cell.mu d) := h
      cases z
      exact ⟨p, o1, rfl, rfl, g1, h1, d1⟩
    | succ j =>
      obtain ⟨_, _, _, z, _⟩ := sa.mu (i := j) h
      exact z.elim
  · cases j with
    | zero =>
      cases k with
      | zero => exact absurd rfl ne
      | succ k =>
        obtain ⟨_, _, _, z, _⟩ := sa.mu (i := k) h3
        exact z.elim
    | succ j =>
      obtain ⟨_, _, _, z, _⟩ := sa.mu (i := j) h2
      exact z.elim
  · refine (s.no i).grow sb g.g fun q es j e1 e2 => ?_
    have ne : i ≠ j := fun z => by
      subst z
      rcases get_set e1 with ⟨_, z, _⟩ | ⟨z, _⟩
      · cases z
      · exact z rfl
    have e1' : ρ[j]? = some (.mu es) := by rwa [List.getElem?_set_ne ne] at e1
    have nq : q ≠ p := fun z => by
      subst z
      exact s.apart ne h e1' hp e2
    obtain ⟨q2, us, e', mm, gq, hq, dq⟩ := s.mu e1'
    rw [e2] at e'
    cases e'
    exact ⟨(g.k q _ nq hq).trans hq.symm, g.n q nq (by rw [hq]; simp) gq⟩
  · exact g.wk fun a _ z => by rw [z]; exact m1
theorem ex_methXM {i : Nat} {fs0 fs1 : List (Str × D)} (h0 : ρ[i]? = some (.mu (.ins C fs0))) (nf : fs0.lookup m = none) (h : AgZ K tx ρ ρ1 ds) (h1 : ρ1[i]? = some (.mu (.ins C fs1))) (hR : RX (.mu (.ins C fs1) :: ds.map .fr) e (.no :: ds.map .fr)) :
    EvX K W (tMethX C m (SpX K R RX) W (tVar i) tx) ρ (ρ1.set i .no) e := fun M G H σ s Q q => by
  obtain ⟨p, o, ep, mp, gp, hp, dz⟩ := s.mu h0
  obtain ⟨dx, us, rfl, hz⟩ := mok_ins dz
  refine ⟨.ref p, ep, p, dx, us, rfl, hp, hz.look.2 nf, h M G H σ s _ fun vs G1 H1 g1 s1 dv => ?_⟩
  obtain ⟨a1, a2⟩ := ex_callSM (E := fun _ => E0) (sp := SpX K R RX) s1 h1 ep dv
  refine .inr ⟨_, G1, _, e, _, a1, hR, fun d G' H' g sc x => ?_⟩
  obtain ⟨b1, b2⟩ := a2 G' H' g sc.sub
  exact q d G' H' (g1.trans b2) b1 x
/-- .. that ends well -/
theorem ev_methXM {E : L2.St → XK} {i : Nat} {fs0 fs1 fs2 : List (Str × D)} (h0 : ρ[i]? = some (.mu (.ins C fs0))) (nf : fs0.lookup m = none) (h : AgZ K tx ρ ρ1 ds) (h1 : ρ1[i]? = some (.mu (.ins C fs1))) (hR : R (.mu (.ins C fs1) :: ds.map .fr) (.fr d) (.mu (.ins C fs2) :: ds.map .fr)) :
    EvZ K (L2H.tMethH C m (SpX K R RX) E (tVar i) tx) ρ (ρ1.set i (.mu (.ins C fs2))) d := fun M G H σ s Q q => by
  obtain ⟨p, o, ep, mp, gp, hp, dz⟩ := s.mu h0
  obtain ⟨dx, us, rfl, hz⟩ := mok_ins dz
  refine ⟨.ref p, ep, p, dx, us, rfl, hp, hz.look.2 nf, h M G H σ s _ fun vs G1 H1 g1 s1 dv => .inl ?_⟩
  obtain ⟨sx, _⟩ := ex_callSM (E := fun _ => E0) (sp := SpX K R RX) s1 h1 ep dv
  obtain ⟨p', us', e', m', gp', hp', dz'⟩ := s1.mu h1
  rw [ep] at e'
  cases e'
  refine ⟨fun a => a = p, G1, .mu (.ins C fs1) :: ds.map .fr, .fr d, .mu (.ins C fs2) :: ds.map .fr, sx, hR, fun v G' H' g s r => ?_⟩
  have gM : Grow M G1 H1 G' H' := g.wk fun a _ z => by subst z; exact m'
  obtain ⟨p2, us2, e2, m2, gp2, hp2, dz2⟩ := s.mu (i := 0) rfl
  have eq2 : p = p2 := by cases e2; rfl
  subst eq2
  refine q v G' H' (g1.trans gM) ⟨by rw [List.length_set]; exact s1.len, s.sub, fun {j d} h => ?_, fun {j d} h => ?_, fun {j k d e2 q} ne h2 h3 h4 h5 => ?_⟩ r
  · rcases get_set h with ⟨_, z, _⟩ | ⟨_, h⟩
    · cases z
    · obtain ⟨w, a1, a2⟩ := s1.fr h
      exact ⟨w, a1, a2.mono g.g⟩
  · rcases get_set h with ⟨ej, z, _⟩ | ⟨ej, h⟩
    · subst ej
      cases z
      exact ⟨p, us2, ep, m', gp2, hp2, dz2⟩
    · obtain ⟨w, ws', a1, a2, a3, a4, a5⟩ := s1.mu h
      have ne : w ≠ p := fun z => by
        subst z
        exact s1.apart ej h1 h ep a1
      exact ⟨w, ws', a1, a2, g.n w ne (by rw [a4]; simp) a3, g.k w _ ne a4, a5.mono g.g⟩
  · have a1 : ∃ x, ρ1[j]? = some (.mu x) := by
      rcases get_set h2 with ⟨ej, _, _⟩ | ⟨_, h2⟩
      · subst ej; exact ⟨_, h1⟩
      · exact ⟨_, h2⟩
    have a2 : ∃ x, ρ1[k]? = some (.mu x) := by
      rcases get_set h3 with ⟨ej, _, _⟩ | ⟨_, h3⟩
      · subst ej; exact ⟨_, h1⟩
      · exact ⟨_, h3⟩
    obtain ⟨x, a1⟩ := a1
    obtain ⟨y, a2⟩ := a2
    exact s1.apart ne a1 a2 h4 h5
/-! ### parts that raise -/
def AgX (K : PySem.W.Frag) (W : WX) (ta : TA) (ρ ρ' : Rho) (e : Exn) : Prop := ∀ M G H σ, Sim K M G H σ ρ → ∀ Q : List V → Hp → Prop, (∀ d G' H', Grow M G H G' H' → Sim K M G' H' σ ρ' → XdOk K G' d e.fs → W e.cls d σ H') → ta σ H Q
theorem ax_here (h : EvX K W ta ρ ρ1 e) : AgX K W (tCons ta tx) ρ ρ1 e := fun M G H σ s Q q => h M G H σ s _ q
theorem ax_cons (h : EvZ K ta ρ ρ1 d) (k : AgX K W tx ρ1 ρ2 e) : AgX K W (tCons ta tx) ρ ρ2 e := fun M G H σ s Q q => h M G H σ s _ fun v G1 H1 g1 s1 dv => k M G1 H1 σ s1 _ fun d G2 H2 g2 s2 x => q d G2 H2 (g1.trans g2) s2 x
theorem evx_tup (h : AgX K W tx ρ ρ1 e) : EvX K W (tTup tx) ρ ρ1 e := fun M G H σ s Q q => h M G H σ s _ q
theorem evx_lst (h : AgX K W tx ρ ρ1 e) : EvX K W (tLst tx) ρ ρ1 e := fun M G H σ s Q q => h M G H σ s _ q
theorem evx_ifT {tb tc : TE} (h : TsZ K tt ρ ρ1 true) (k : EvX K W tb ρ1 ρ2 e) : EvX K W (tIf tt tb tc) ρ ρ2 e := fun M G H σ s Q q => h M G H σ s _ fun G1 H1 g1 s1 => by
  rw [if_pos rfl]
  exact k M G1 H1 σ s1 _ fun d G2 H2 g2 s2 x => q d G2 H2 (g1.trans g2) s2 x
theorem evx_ifF {tb tc : TE} (h : TsZ K tt ρ ρ1 false) (k : EvX K W tc ρ1 ρ2 e) : EvX K W (tIf tt tb tc) ρ ρ2 e := fun M G H σ s Q q => h M G H σ s _ fun G1 H1 g1 s1 => by
  rw [if_neg Bool.false_ne_true]
  exact k M G1 H1 σ s1 _ fun d G2 H2 g2 s2 x => q d G2 H2 (g1.trans g2) s2 x
theorem xx_app {i : Nat} {es : List D} (h0 : ρ[i]? = some (.own es)) (h : EvX K W ta ρ ρ1 e) : ExX K S W (tDrop (tBM K "list" rAppend (tVar i) (tCons ta tNil))) ρ ρ1 e := fun M G H σ E f s q => by
  obtain ⟨p, us, e1, mp, gp, hp, dz⟩ := s.own h0
  exact ⟨.ref p, e1, .inl ⟨rfl, us, sq_of hp⟩, h M G H σ s _ fun d G1 H1 g1 s1 x => q d G1 H1 σ g1 .refl s1 x⟩
/-- a while in which a turn raises -/
inductive WhileX (K : PySem.W.Frag) (S : List Nat) (W : WX) (tt : TT) (tb : TS) : Nat → Rho → Rho → Exn → Prop
  | step {n : Nat} {ρ ρ1 ρ2 ρ3 : Rho} {e : Exn} : TsZ K tt ρ ρ1 true → ExZ K S tb ρ1 (.nx ρ2) → WhileX K S W tt tb n ρ2 ρ3 e → WhileX K S W tt tb (n + 1) ρ ρ3 e
  | here {n : Nat} {ρ ρ1 ρ2 : Rho} {e : Exn} : TsZ K tt ρ ρ1 true → ExX K S W tb ρ1 ρ2 e → WhileX K S W tt tb n ρ ρ2 e
theorem xx_while {n : Nat} (h : WhileX K S W tt tb n ρ ρ2 e) : ExX K S W (tWhile tt tb) ρ ρ2 e := fun M G H σ E f s q => by
  refine ⟨fun m σ' H' => ∃ Gi ρi, Grow M G H Gi H' ∧ Keep S σ σ' ∧ Sim K M Gi H' σ' ρi ∧ WhileX K S W tt tb m ρi ρ2 e, ⟨n, G, ρ, .refl, .refl, s, h⟩, ?_⟩
  rintro m σi Hi ⟨Gi, ρi, gi, ki, si, li⟩
  cases li with
  | step t1 t2 t3 =>
    refine t1 M Gi Hi σi si _ fun G1 H1 g1 s1 => ?_
    rw [if_pos rfl]
    exact ⟨fun σ' H' => ∃ Gi ρi, Grow M G H Gi H' ∧ Keep S σ σ' ∧ Sim K M Gi H' σ' ρi ∧ WhileX K S W tt tb _ ρi ρ2 e, fun σ' H' w => ⟨_, Nat.lt_succ_self _, w⟩, t2 M G1 H1 σi _ (f.grow (gi.trans g1)) s1 fun G3 H3 σ3 g3 k3 s3 => ⟨G3, _, (gi.trans g1).trans g3, ki.trans k3, s3, t3⟩⟩
  | here t1 t2 =>
    refine t1 M Gi Hi σi si _ fun G1 H1 g1 s1 => ?_
    rw [if_pos rfl]
    exact ⟨fun _ _ => False, fun σ' H' w => w.elim, t2 M G1 H1 σi _ (f.grow (gi.trans g1)) s1 fun d G3 H3 σ3 g3 k3 s3 x => q d G3 H3 σ3 ((gi.trans g1).trans g3) (ki.trans k3) s3 x⟩
end
/-! ### a def that may raise, where it does not -/
theorem fn_calm {P : Program} {w : World} {K : PySem.W.Frag} {mg : Str → Option Value} {base : Heap} {k : Nat} {f : Addr} {fd : FuncData} {ps : List Str} {R : Rel} {RX : RelX} (h : FnOk P w K mg base (L2N.CX P w) k f fd ps (SpX K R RX)) : FnOk P w K mg base CX0 k f fd ps (SpZ K R) := by
  refine ⟨fun vs H Q E hs => h.len vs H Q E (.inl hs), fun A outer s H args us vs Q E hr he hb hv hs => ?_⟩
  refine codeAny_mono (h.run A outer s H args us vs Q (fun _ _ _ => False) hr he hb hv (.inl hs)) fun r s' q => ?_
  cases r with
  | error e => 
    obtain ⟨_, _, _, _, _, _, _, _, _, _, _, _, z⟩ := q
    exact z.elim
  | ok fl => cases fl <;> exact q
theorem zdef_calm {P : Program} {w : World} {K : PySem.W.Frag} {mg : Str → Option Value} {base : Heap} {k : Nat} {x : Str} {ps : List Str} {R : Rel} {RX : RelX} (h : Zdex P w K mg base k x ps R RX) : Zdef P w K mg base k x ps R := by
  obtain ⟨f, fd, h1, h2⟩ := h.ex
  exact ⟨f, fd, fn_calm h1, h2⟩
end Z

set_option Elab.async false
set_option linter.all false
set_option maxRecDepth 100000
set_option maxHeartbeats 2000000
/-! LawPr: the reader of expressions on any tokens: a parser without the program, and the program against it. -/
namespace Z
open PySem PySem.Spec PyProof.Rows L2
open Evl (Ex Ex.refl Ex.trans Ex.new ex_rd ex_l ex_t sq_of st_of fresh_back sz_of sz_lt)
namespace Pr
def tx_Reader__refuse (K : PySem.W.Frag) (C_FaultyText : Addr) (E : XK) : TS :=
  (tRaise1 K C_FaultyText "at" (wOf E) (tCons (tOp rAddI (tFld K (tVar 0) "_read") (tC (.int 1))) tNil))

def tx_Reader__expect (K : PySem.W.Frag) (R_Reader__skip : Rel) (Rx_Reader__refuse : Rel) (RX_Reader__refuse : RelX) (C_Reader : Addr) (E : XK) : TS :=
  (tIfS (tNot (tB (tMeth C_Reader "_skip" (SpZ K R_Reader__skip) [] E0 (tVar 0) (tCons (tVar 1) tNil)))) (tDrop (tMethX C_Reader "_refuse" (SpX K Rx_Reader__refuse RX_Reader__refuse) (wOf E) (tVar 0) tNil)) tNext)

def tx_Reader__word (K : PySem.W.Frag) (R_Reader__peek : Rel) (R_Reader__take : Rel) (Rx_Reader__refuse : Rel) (RX_Reader__refuse : RelX) (R_is_word : Rel) (C_Reader : Addr) (E : XK) : TS :=
  (tSeq (tIfS (tNot (tB (tCall (SpZ K R_is_word) [] E0 (tCons (tMeth C_Reader "_peek" (SpZ K R_Reader__peek) [] E0 (tVar 0) tNil) tNil)))) (tDrop (tMethX C_Reader "_refuse" (SpX K Rx_Reader__refuse RX_Reader__refuse) (wOf E) (tVar 0) tNil)) tNext)
      (tRet (tMeth C_Reader "_take" (SpZ K R_Reader__take) [] E0 (tVar 0) tNil)))

def tx_Reader_finish (K : PySem.W.Frag) (Rx_Reader__refuse : Rel) (RX_Reader__refuse : RelX) (C_Reader : Addr) (E : XK) : TS :=
  (tIfS (tTest (tOp rLtI (tFld K (tVar 0) "_read") (tCB (rLenX K) (tCons (tFld K (tVar 0) "_tokens") tNil)))) (tDrop (tMethX C_Reader "_refuse" (SpX K Rx_Reader__refuse RX_Reader__refuse) (wOf E) (tVar 0) tNil)) tNext)

def xb_Reader__path_1 (K : PySem.W.Frag) (R_Reader__skip : Rel) (Rx_Reader__word : Rel) (RX_Reader__word : RelX) (C_Reader : Addr) (E : XK) : TS :=
  (tDrop (tBM K "list" rAppend (tVar 1) (tCons (tMethX C_Reader "_word" (SpX K Rx_Reader__word RX_Reader__word) (wOf E) (tVar 0) tNil) tNil)))
def tx_Reader__path (K : PySem.W.Frag) (R_Reader__skip : Rel) (Rx_Reader__word : Rel) (RX_Reader__word : RelX) (C_Reader : Addr) (E : XK) : TS :=
  (tSeq (tAsg (tLst (tCons (tMethX C_Reader "_word" (SpX K Rx_Reader__word RX_Reader__word) (wOf E) (tVar 0) tNil) tNil)) (gName 1))
      (tSeq (tWhile (tB (tMeth C_Reader "_skip" (SpZ K R_Reader__skip) [] E0 (tVar 0) (tCons (tC (.str "/")) tNil))) (xb_Reader__path_1 K R_Reader__skip Rx_Reader__word RX_Reader__word C_Reader E))
      (tRet (tM1 (rJoin K) (tC (.str "/")) (tVar 1)))))

def xb_Reader__condition_1 (K : PySem.W.Frag) (R_Reader__skip : Rel) (Rx_Reader__expect : Rel) (RX_Reader__expect : RelX) (Rx_Reader__path : Rel) (RX_Reader__path : RelX) (Rx_Reader__word : Rel) (RX_Reader__word : RelX) (C_Reader : Addr) (E : XK) : TS :=
  (tDrop (tBM K "list" rAppend (tVar 2) (tCons (tMethX C_Reader "_path" (SpX K Rx_Reader__path RX_Reader__path) (wOf E) (tVar 0) tNil) tNil)))
def tx_Reader__condition (K : PySem.W.Frag) (R_Reader__skip : Rel) (Rx_Reader__expect : Rel) (RX_Reader__expect : RelX) (Rx_Reader__path : Rel) (RX_Reader__path : RelX) (Rx_Reader__word : Rel) (RX_Reader__word : RelX) (C_Reader : Addr) (E : XK) : TS :=
  (tSeq (tAsg (tMethX C_Reader "_word" (SpX K Rx_Reader__word RX_Reader__word) (wOf E) (tVar 0) tNil) (gName 1))
      (tSeq (tDrop (tMethX C_Reader "_expect" (SpX K Rx_Reader__expect RX_Reader__expect) (wOf E) (tVar 0) (tCons (tC (.str "in")) tNil)))
      (tSeq (tAsg (tLst (tCons (tMethX C_Reader "_path" (SpX K Rx_Reader__path RX_Reader__path) (wOf E) (tVar 0) tNil) tNil)) (gName 2))
      (tSeq (tWhile (tB (tMeth C_Reader "_skip" (SpZ K R_Reader__skip) [] E0 (tVar 0) (tCons (tC (.str ",")) tNil))) (xb_Reader__condition_1 K R_Reader__skip Rx_Reader__expect RX_Reader__expect Rx_Reader__path RX_Reader__path Rx_Reader__word RX_Reader__word C_Reader E))
      (tRet (tTup (tCons (tVar 1) (tCons (tCB (rTupOf K) (tCons (tVar 2) tNil)) tNil))))))))

def xb_Reader__conditions_1 (K : PySem.W.Frag) (R_Reader__skip : Rel) (Rx_Reader__condition : Rel) (RX_Reader__condition : RelX) (C_Reader : Addr) (E : XK) : TS :=
  (tDrop (tBM K "list" rAppend (tVar 1) (tCons (tMethX C_Reader "_condition" (SpX K Rx_Reader__condition RX_Reader__condition) (wOf E) (tVar 0) tNil) tNil)))
def tx_Reader__conditions (K : PySem.W.Frag) (R_Reader__skip : Rel) (Rx_Reader__condition : Rel) (RX_Reader__condition : RelX) (C_Reader : Addr) (E : XK) : TS :=
  (tSeq (tIfS (tNot (tB (tMeth C_Reader "_skip" (SpZ K R_Reader__skip) [] E0 (tVar 0) (tCons (tC (.str "where")) tNil)))) (tRet (tTup tNil)) tNext)
      (tSeq (tAsg (tLst (tCons (tMethX C_Reader "_condition" (SpX K Rx_Reader__condition RX_Reader__condition) (wOf E) (tVar 0) tNil) tNil)) (gName 1))
      (tSeq (tWhile (tB (tMeth C_Reader "_skip" (SpZ K R_Reader__skip) [] E0 (tVar 0) (tCons (tC (.str "and")) tNil))) (xb_Reader__conditions_1 K R_Reader__skip Rx_Reader__condition RX_Reader__condition C_Reader E))
      (tRet (tCB (rTupOf K) (tCons (tVar 1) tNil))))))

def tx_Reader__factor (K : PySem.W.Frag) (R_Reader__skip : Rel) (Rx_Reader__conditions : Rel) (RX_Reader__conditions : RelX) (Rx_Reader__expect : Rel) (RX_Reader__expect : RelX) (Rx_Reader__refuse : Rel) (RX_Reader__refuse : RelX) (Rx_Reader_expression : Rel) (RX_Reader_expression : RelX) (c_MOST_OPEN : V) (C_Reader : Addr) (E : XK) : TS :=
  (tSeq (tIfS (tB (tMeth C_Reader "_skip" (SpZ K R_Reader__skip) [] E0 (tVar 0) (tCons (tC (.str "sum")) tNil))) (tRet (tTup (tCons (tC (.str "sum")) (tCons (tMethX C_Reader "_conditions" (SpX K Rx_Reader__conditions RX_Reader__conditions) (wOf E) (tVar 0) tNil) tNil)))) tNext)
      (tSeq (tIfS (tTest (tOp rEq (tFld K (tVar 0) "_held") (tC c_MOST_OPEN))) (tDrop (tMethX C_Reader "_refuse" (SpX K Rx_Reader__refuse RX_Reader__refuse) (wOf E) (tVar 0) tNil)) tNext)
      (tSeq (tDrop (tMethX C_Reader "_expect" (SpX K Rx_Reader__expect RX_Reader__expect) (wOf E) (tVar 0) (tCons (tC (.str "(")) tNil)))
      (tSeq (sFldAug K (tVar 0) (tC (.int 1)) rAdd "_held")
      (tSeq (tAsg (tMethX C_Reader "expression" (SpX K Rx_Reader_expression RX_Reader_expression) (wOf E) (tVar 0) tNil) (gName 1))
      (tSeq (tDrop (tMethX C_Reader "_expect" (SpX K Rx_Reader__expect RX_Reader__expect) (wOf E) (tVar 0) (tCons (tC (.str ")")) tNil)))
      (tSeq (sFldAug K (tVar 0) (tC (.int 1)) rSub "_held")
      (tRet (tVar 1)))))))))

def tx_Reader__term (K : PySem.W.Frag) (R_Reader__peek : Rel) (R_Reader__take : Rel) (Rx_Reader__expect : Rel) (RX_Reader__expect : RelX) (Rx_Reader__factor : Rel) (RX_Reader__factor : RelX) (R__is_number : Rel) (C_Reader : Addr) (E : XK) : TS :=
  (tSeq (tIfS (tNot (tB (tCall (SpZ K R__is_number) [] E0 (tCons (tMeth C_Reader "_peek" (SpZ K R_Reader__peek) [] E0 (tVar 0) tNil) tNil)))) (tRet (tMethX C_Reader "_factor" (SpX K Rx_Reader__factor RX_Reader__factor) (wOf E) (tVar 0) tNil)) tNext)
      (tSeq (tAsg (tCB rIntT (tCons (tMeth C_Reader "_take" (SpZ K R_Reader__take) [] E0 (tVar 0) tNil) tNil)) (gName 1))
      (tSeq (tDrop (tMethX C_Reader "_expect" (SpX K Rx_Reader__expect RX_Reader__expect) (wOf E) (tVar 0) (tCons (tC (.str "*")) tNil)))
      (tRet (tTup (tCons (tC (.str "times")) (tCons (tVar 1) (tCons (tMethX C_Reader "_factor" (SpX K Rx_Reader__factor RX_Reader__factor) (wOf E) (tVar 0) tNil) tNil))))))))

def xb_Reader_expression_1 (K : PySem.W.Frag) (R_Reader__peek : Rel) (R_Reader__skip : Rel) (R_Reader__take : Rel) (Rx_Reader__term : Rel) (RX_Reader__term : RelX) (C_Reader : Addr) (E : XK) : TS :=
  (tSeq (tAsg (tIf (tTest (tOp rEq (tMeth C_Reader "_take" (SpZ K R_Reader__take) [] E0 (tVar 0) tNil) (tC (.str "+")))) (tC (.str "plus")) (tC (.str "less"))) (gName 2))
      (tAsg (tTup (tCons (tVar 2) (tCons (tVar 1) (tCons (tMethX C_Reader "_term" (SpX K Rx_Reader__term RX_Reader__term) (wOf E) (tVar 0) tNil) tNil)))) (gName 1)))
def tx_Reader_expression (K : PySem.W.Frag) (R_Reader__peek : Rel) (R_Reader__skip : Rel) (R_Reader__take : Rel) (Rx_Reader__term : Rel) (RX_Reader__term : RelX) (C_Reader : Addr) (E : XK) : TS :=
  (tSeq (tAsg (tIf (tB (tMeth C_Reader "_skip" (SpZ K R_Reader__skip) [] E0 (tVar 0) (tCons (tC (.str "-")) tNil))) (tTup (tCons (tC (.str "minus")) (tCons (tMethX C_Reader "_term" (SpX K Rx_Reader__term RX_Reader__term) (wOf E) (tVar 0) tNil) tNil))) (tMethX C_Reader "_term" (SpX K Rx_Reader__term RX_Reader__term) (wOf E) (tVar 0) tNil)) (gName 1))
      (tSeq (tWhile (tTest (tOp (rIn K false) (tMeth C_Reader "_peek" (SpZ K R_Reader__peek) [] E0 (tVar 0) tNil) (tTup (tCons (tC (.str "+")) (tCons (tC (.str "-")) tNil))))) (xb_Reader_expression_1 K R_Reader__peek R_Reader__skip R_Reader__take Rx_Reader__term RX_Reader__term C_Reader E))
      (tRet (tVar 1))))

def tx_read_expression (K : PySem.W.Frag) (R_Reader : Rel) (Rx_Reader_expression : Rel) (RX_Reader_expression : RelX) (Rx_Reader_finish : Rel) (RX_Reader_finish : RelX) (R_tokens : Rel) (C_Reader : Addr) (E : XK) : TS :=
  (tSeq (tAsg (tMake C_Reader (SpZ K R_Reader) [] E0 (tCons (tCall (SpZ K R_tokens) [] E0 (tCons (tVar 0) tNil)) tNil)) (gName 1))
      (tSeq (tAsg (tMethX C_Reader "expression" (SpX K Rx_Reader_expression RX_Reader_expression) (wOf E) (tVar 1) tNil) (gName 2))
      (tSeq (tDrop (tMethX C_Reader "finish" (SpX K Rx_Reader_finish RX_Reader_finish) (wOf E) (tVar 1) tNil))
      (tRet (tVar 2)))))

def t__is_number (K : PySem.W.Frag) (R_is_numeral : Rel) (c_GREATEST_NUMBER : V) : TS :=
  (tRet (tAndV (tCall (SpZ K R_is_numeral) [] E0 (tCons (tVar 0) tNil)) (tAndV (tOp rLeI (tCB (rLenX K) (tCons (tVar 0) tNil)) (tCB (rLenX K) (tCons (tCB rStrI (tCons (tC c_GREATEST_NUMBER) tNil)) tNil))) (tOp rLeI (tCB rIntT (tCons (tVar 0) tNil)) (tC c_GREATEST_NUMBER)))))

/-! ### the parser -/
abbrev Cd := Str × List (List Str)
def psD (ps : List (List Str)) : List D := (ps.map pathS).map .str
def cdD (c : Cd) : D := .tup [.str c.1, .tup (psD c.2)]
inductive Tr where
  | sum (cs : List Cd)
  | times (n : Nat) (t : Tr)
  | minus (t : Tr)
  | plus (a b : Tr)
  | less (a b : Tr)
def Tr.d : Tr → D
  | .sum cs => .tup [.str "sum", .tup (cs.map cdD)]
  | .times n t => .tup [.str "times", .int (n : Int), t.d]
  | .minus t => .tup [.str "minus", t.d]
  | .plus a b => .tup [.str "plus", a.d, b.d]
  | .less a b => .tup [.str "less", a.d, b.d]
abbrev hd (l : List Str) : Str := l.headD ""
inductive Res (α : Type) where
  | ok (a : α) (l : List Str)
  | no (l : List Str)
def Res.bind {α β : Type} : Res α → (α → List Str → Res β) → Res β
  | .ok a l, f => f a l
  | .no l, _ => .no l
/-- what holds of a result -/
def Res.All {α : Type} (P : α → List Str → Prop) (Q : List Str → Prop) : Res α → Prop
  | .ok a l => P a l
  | .no l => Q l
theorem Res.All.bind {α β : Type} {P : α → List Str → Prop} {P' : β → List Str → Prop} {Q Q' : List Str → Prop} {r : Res α} {f : α → List Str → Res β} (h : r.All P Q) (k : ∀ a l, r = .ok a l → P a l → (f a l).All P' Q') (k2 : ∀ l, r = .no l → Q l → Q' l) : (r.bind f).All P' Q' := by
  cases r with
  | ok a l => exact k a l rfl h
  | no l => exact k2 l rfl h
theorem Res.All.imp {α : Type} {P P' : α → List Str → Prop} {Q Q' : List Str → Prop} {r : Res α} (h : r.All P Q) (k : ∀ a l, P a l → P' a l) (k2 : ∀ l, Q l → Q' l) : r.All P' Q' := by
  cases r with
  | ok a l => exact k a l h
  | no l => exact k2 l h
def numV (t : Str) : Nat := NumText.digitsVal t.cps.toList
def numOk (t : Str) : Bool := numB t.cps.toList && (decide (t.length ≤ 4) && decide (numV t ≤ 1000))
def pEx (t : Str) (l : List Str) : Res Unit := if hd l = t then .ok () l.tail else .no l
def pWd (l : List Str) : Res Str := if wordB (hd l) = true then .ok (hd l) l.tail else .no l
def pPathT : Nat → List Str → List Str → Res (List Str)
  | 0, _, l => .no l
  | n + 1, ws, l => if hd l = "/" then (pWd l.tail).bind fun w m => pPathT n (ws ++ [w]) m else .ok ws l
def pPath (l : List Str) : Res (List Str) := (pWd l).bind fun w m => pPathT (m.length + 1) [w] m
def pPsT : Nat → List (List Str) → List Str → Res (List (List Str))
  | 0, _, l => .no l
  | n + 1, ps, l => if hd l = "," then (pPath l.tail).bind fun p m => pPsT n (ps ++ [p]) m else .ok ps l
def pCd (l : List Str) : Res Cd := (pWd l).bind fun w l1 => (pEx "in" l1).bind fun _ l2 => (pPath l2).bind fun p l3 => (pPsT (l3.length + 1) [p] l3).bind fun ps l4 => .ok (w, ps) l4
def pCsT : Nat → List Cd → List Str → Res (List Cd)
  | 0, _, l => .no l
  | n + 1, cs, l => if hd l = "and" then (pCd l.tail).bind fun c m => pCsT n (cs ++ [c]) m else .ok cs l
def pCs (l : List Str) : Res (List Cd) := if hd l = "where" then (pCd l.tail).bind fun c m => pCsT (m.length + 1) [c] m else .ok [] l
def pFac (E : Option (List Str → Res Tr)) (l : List Str) : Res Tr :=
  if hd l = "sum" then (pCs l.tail).bind fun cs m => .ok (.sum cs) m
  else match E with
    | none => .no l
    | some F => (pEx "(" l).bind fun _ l1 => (F l1).bind fun t l2 => (pEx ")" l2).bind fun _ l3 => .ok t l3
def pTrm (E : Option (List Str → Res Tr)) (l : List Str) : Res Tr :=
  if numOk (hd l) = true then (pEx "*" l.tail).bind fun _ l1 => (pFac E l1).bind fun t l2 => .ok (.times (numV (hd l)) t) l2 else pFac E l
def pMore (E : Option (List Str → Res Tr)) : Nat → Tr → List Str → Res Tr
  | 0, _, l => .no l
  | n + 1, t, l => if hd l = "+" ∨ hd l = "-" then (pTrm E l.tail).bind fun u m => pMore E n (if hd l = "+" then .plus t u else .less t u) m else .ok t l
def pFst (E : Option (List Str → Res Tr)) (l : List Str) : Res Tr := if hd l = "-" then (pTrm E l.tail).bind fun t m => .ok (.minus t) m else pTrm E l
def pExp (E : Option (List Str → Res Tr)) (l : List Str) : Res Tr := (pFst E l).bind fun t m => pMore E (m.length + 1) t m
def pAt : Nat → Option (List Str → Res Tr)
  | 0 => none
  | k + 1 => some (pExp (pAt k))
def pAll (l : List Str) : Res Tr := (pExp (pAt 10) l).bind fun t m => if m = [] then .ok t m else .no m
/-! ### suffixes -/
def TsOk (ts : List Str) : Prop := ts.length ≤ 1000 ∧ ∀ t ∈ ts, t.length ≤ 1000
abbrev rdS (C : Addr) (ts l : List Str) (h : Nat) : MO := rdM C ts (ts.length - l.length) h
theorem suf_drop {ts l : List Str} (h : l <:+ ts) : ts.drop (ts.length - l.length) = l := by
  obtain ⟨p, rfl⟩ := h
  rw [List.length_append, Nat.add_sub_cancel, List.drop_left]
theorem suf_len {ts l : List Str} (h : l <:+ ts) : l.length ≤ ts.length := h.length_le
theorem suf_hd {ts l : List Str} (h : l <:+ ts) : hdT ts (ts.length - l.length) = hd l := by
  unfold hdT
  rw [suf_drop h]
theorem suf_tl {ts l : List Str} (h : l <:+ ts) : l.tail <:+ ts := (List.tail_suffix l).trans h
theorem suf_next {ts l : List Str} (h : l <:+ ts) (hl : l ≠ []) : ts.length - l.length + 1 = ts.length - l.tail.length := by
  have := suf_len h
  cases l with
  | nil => exact absurd rfl hl
  | cons x l =>
    rw [List.length_cons] at *
    show _ = ts.length - l.length
    omega
theorem hd_ne {l : List Str} {t : Str} (h : hd l = t) (ht : t ≠ "") : l ≠ [] := fun z => by
  subst z
  exact ht h.symm
theorem tl_len {l : List Str} (h : l ≠ []) : l.tail.length + 1 = l.length := by
  cases l with
  | nil => exact absurd rfl h
  | cons x l => rfl
theorem hd_len {ts l : List Str} (h : l <:+ ts) (ok : TsOk ts) : (hd l).length ≤ 1000 := by
  cases l with
  | nil => exact Nat.zero_le _
  | cons x l => exact ok.2 x (h.subset List.mem_cons_self)
section
variable {K : PySem.W.Frag} {C CF : Addr}
/-- what a method's promise is: args as, the value by f -/
def fault (CF : Addr) (ts l : List Str) : Exn := ⟨.ref CF, some [("at", .int (((ts.length - l.length : Nat) : Int) + 1))]⟩
def Do {α : Type} (C CF : Addr) (R : Rel) (RX : RelX) (f : α → D) (as : List D) (p : Nat → List Str → Res α) : Prop := ∀ (ts : List Str) (h : Nat) (l : List Str), TsOk ts → h ≤ 10 → l <:+ ts →
  (p h l).All (fun a m => m <:+ l ∧ R (.mu (rdS C ts l h) :: as.map .fr) (.fr (f a)) (.mu (rdS C ts m h) :: as.map .fr)) fun m => m <:+ l ∧ RX (.mu (rdS C ts l h) :: as.map .fr) (fault CF ts m) (.no :: as.map .fr)
theorem fin_no {S : List Nat} {a : MO} {ds : List D} {ρ' : Rho} {d : D} : FinZ S (.mu a :: ds.map .fr) (.no :: ds.map .fr) ρ' (.fr d) := by
  refine ⟨rfl, fun i m h => ?_, fun i x h => ?_, fun m h => by cases h⟩
  · cases i with
    | zero => cases h
    | succ i =>
      have : (ds.map Cell.fr)[i]? = some (.mu m) := h
      rw [List.getElem?_map] at this
      cases e : ds[i]? with
      | none => rw [e] at this; cases this
      | some y => rw [e] at this; cases this
  · cases i with
    | zero => cases h
    | succ i => exact h
theorem xe_rt {t : XK → TS} {n : Nat} {a b : MO} {ds : List D} {d : D} (h : ∃ ρ2, (∀ E, ExZ K [0] (t E) (.mu a :: ds.map .fr ++ List.replicate (n - (ds.length + 1)) .no) (.rt ρ2 (.fr d))) ∧ ρ2[0]? = some (.mu b)) : RelOfE K [0] t n (ds.length + 1) (.mu a :: ds.map .fr) (.fr d) (.mu b :: ds.map .fr) := by
  obtain ⟨ρ2, h1, h2⟩ := h
  exact ⟨by rw [List.length_cons, List.length_map], ρ2, .inl h1, fin_mu (by decide) h2⟩
theorem xe_nx {t : XK → TS} {n : Nat} {a b : MO} {ds : List D} (h : ∃ ρ2, (∀ E, ExZ K [0] (t E) (.mu a :: ds.map .fr ++ List.replicate (n - (ds.length + 1)) .no) (.nx ρ2)) ∧ ρ2[0]? = some (.mu b)) : RelOfE K [0] t n (ds.length + 1) (.mu a :: ds.map .fr) (.fr .non) (.mu b :: ds.map .fr) := by
  obtain ⟨ρ2, h1, h2⟩ := h
  exact ⟨by rw [List.length_cons, List.length_map], ρ2, .inr ⟨rfl, h1⟩, fin_mu (by decide) h2⟩
theorem xx_no {t : XK → TS} {n : Nat} {a : MO} {ds : List D} {e : Exn} (h : ∃ ρ2, ∀ E, ExX K [0] (wOf E) (t E) (.mu a :: ds.map .fr ++ List.replicate (n - (ds.length + 1)) .no) ρ2 e) : RelOfX K [0] t n (ds.length + 1) (.mu a :: ds.map .fr) e (.no :: ds.map .fr) := by
  obtain ⟨ρ2, h1⟩ := h
  exact ⟨by rw [List.length_cons, List.length_map], ρ2, h1, fin_no⟩
/-! ### the small ones -/
theorem pk_s {R : Rel} (hp : CPk C R) {ts l : List Str} {h : Nat} (hs : l <:+ ts) : R [.mu (rdS C ts l h)] (.fr (.str (hd l))) [.mu (rdS C ts l h)] := by
  have := hp ts (ts.length - l.length) h
  rw [suf_hd hs] at this
  exact this
theorem tk_s {R : Rel} (ht : CTk C R) {ts l : List Str} {h : Nat} (hs : l <:+ ts) (hl : l ≠ []) : R [.mu (rdS C ts l h)] (.fr (.str (hd l))) [.mu (rdS C ts l.tail h)] := by
  have := ht ts (ts.length - l.length) h
  rw [suf_hd hs, suf_next hs hl] at this
  exact this
theorem sk_y {R : Rel} (hk : CSk C R) {ts l : List Str} {h : Nat} {t : Str} (hs : l <:+ ts) (e : hd l = t) (ht : t ≠ "") : R [.mu (rdS C ts l h), .fr (.str t)] (.fr (.bl true)) [.mu (rdS C ts l.tail h), .fr (.str t)] := by
  have := hk ts (ts.length - l.length) h t
  rw [suf_hd hs, if_pos e, decide_eq_true e, suf_next hs (hd_ne e ht)] at this
  exact this
theorem sk_n {R : Rel} (hk : CSk C R) {ts l : List Str} {h : Nat} {t : Str} (hs : l <:+ ts) (e : hd l ≠ t) : R [.mu (rdS C ts l h), .fr (.str t)] (.fr (.bl false)) [.mu (rdS C ts l h), .fr (.str t)] := by
  have := hk ts (ts.length - l.length) h t
  rw [suf_hd hs, if_neg e, decide_eq_false e] at this
  exact this
def CRf (C CF : Addr) (RX : RelX) : Prop := ∀ (ts l : List Str) (h : Nat), RX [.mu (rdS C ts l h)] (fault CF ts l) [.no]
theorem rel_rf (c : Cls K C) (na : ∀ f ∈ rdNames, NoAttr K C f) : CRf C CF (RelOfX K [0] (fun E => tx_Reader__refuse K CF E) 1 1) := fun ts l h =>
  xx_no (ds := []) ⟨_, fun E => xx_raise1 (ag_cons (ev_add (ev_fldO (i := 0) (fs := rdF ts (ts.length - l.length) h) c (na "_read" (by decide)) rfl (by rfl)) ev_int) ag_nil)⟩
theorem do_ex {Rs : Rel} {Rr : Rel} {RXr : RelX} (hs : CSk C Rs) (hr : CRf C CF RXr) (t : Str) (ht : t ≠ "") : Do C CF (RelOfE K [0] (fun E => tx_Reader__expect K Rs Rr RXr C E) 2 2) (RelOfX K [0] (fun E => tx_Reader__expect K Rs Rr RXr C E) 2 2) (fun _ => .non) [.str t] (fun _ l => pEx t l) := fun ts h l ok hh sf => by
  show (pEx t l).All _ _
  unfold pEx
  by_cases e : hd l = t
  · rw [if_pos e]
    exact ⟨List.tail_suffix l, xe_nx (ds := [.str t]) ⟨_, fun E => ex_ifF (ts_not (b := true) (ts_B (ev_methM (ds := [.str t]) (i := 0) (fs0 := rdF ts (ts.length - l.length) h) rfl (by rfl) (ag_cons (ev_var (i := 1) rfl) ag_nil) rfl (sk_y hs sf e ht)))) ex_next, rfl⟩⟩
  · rw [if_neg e]
    exact ⟨List.suffix_refl l, xx_no (ds := [.str t]) ⟨_, fun E => xx_ifT (ts_not (b := false) (ts_B (ev_methM (ds := [.str t]) (i := 0) (fs0 := rdF ts (ts.length - l.length) h) rfl (by rfl) (ag_cons (ev_var (i := 1) rfl) ag_nil) rfl (sk_n hs sf e)))) (xx_drop (ex_methXM (ds := []) (i := 0) (fs0 := rdF ts (ts.length - l.length) h) rfl (by rfl) ag_nil rfl (hr ts l h)))⟩⟩
theorem do_wd {Rp Rt Rw : Rel} {Rr : Rel} {RXr : RelX} (hp : CPk C Rp) (ht : CTk C Rt) (hw : Spec Rw PreWord PostWord) (hr : CRf C CF RXr) : Do C CF (RelOfE K [0] (fun E => tx_Reader__word K Rp Rt Rr RXr Rw C E) 1 1) (RelOfX K [0] (fun E => tx_Reader__word K Rp Rt Rr RXr Rw C E) 1 1) .str [] (fun _ l => pWd l) := fun ts h l ok hh sf => by
  obtain ⟨r', cs', h1, rfl, h2⟩ := hw _ ⟨hd l, rfl, by have := hd_len sf ok; omega⟩
  obtain rfl := h2 _ rfl
  have e1 : EvZ K (tMeth C "_peek" (SpZ K Rp) [] E0 (tVar 0) tNil) [.mu (rdS C ts l h)] [.mu (rdS C ts l h)] (.str (hd l)) := ev_methM (ds := []) (i := 0) (fs0 := rdF ts (ts.length - l.length) h) rfl (by rfl) ag_nil rfl (pk_s hp sf)
  show (pWd l).All _ _
  unfold pWd
  by_cases k : wordB (hd l) = true
  · rw [if_pos k]
    rw [k] at h1
    have hl : l ≠ [] := fun z => by
      subst z
      have := (word_len k).1
      exact absurd this (by decide)
    exact ⟨List.tail_suffix l, xe_rt (ds := []) ⟨_, fun E => ex_seq (ex_ifF (ts_not (b := true) (ts_B (ev_callF (ds := [.str (hd l)]) (ag_cons e1 ag_nil) h1))) ex_next) (ex_ret (ev_methM (ds := []) (i := 0) (fs0 := rdF ts (ts.length - l.length) h) rfl (by rfl) ag_nil rfl (tk_s ht sf hl))), rfl⟩⟩
  · rw [if_neg k]
    have k' : wordB (hd l) = false := by simpa using k
    rw [k'] at h1
    exact ⟨List.suffix_refl l, xx_no (ds := []) ⟨_, fun E => xx_seqX (xx_ifT (ts_not (b := false) (ts_B (ev_callF (ds := [.str (hd l)]) (ag_cons e1 ag_nil) h1))) (xx_drop (ex_methXM (ds := []) (i := 0) (fs0 := rdF ts (ts.length - l.length) h) rfl (by rfl) ag_nil rfl (hr ts l h))))⟩⟩
def pFin (l : List Str) : Res Unit := if l = [] then .ok () l else .no l
theorem do_fn {Rr : Rel} {RXr : RelX} (c : Cls K C) (na : ∀ f ∈ rdNames, NoAttr K C f) (hr : CRf C CF RXr) : Do C CF (RelOfE K [0] (fun E => tx_Reader_finish K Rr RXr C E) 1 1) (RelOfX K [0] (fun E => tx_Reader_finish K Rr RXr C E) 1 1) (fun _ => .non) [] (fun _ l => pFin l) := fun ts h l ok hh sf => by
  have er : EvZ K (tFld K (tVar 0) "_read") [.mu (rdS C ts l h)] [.mu (rdS C ts l h)] (.int ((ts.length - l.length : Nat) : Int)) := ev_fldO (i := 0) (fs := rdF ts (ts.length - l.length) h) c (na "_read" (by decide)) rfl (by rfl)
  have et : EvZ K (tFld K (tVar 0) "_tokens") [.mu (rdS C ts l h)] [.mu (rdS C ts l h)] (.tup (ts.map .str)) := ev_fldO (i := 0) (fs := rdF ts (ts.length - l.length) h) c (na "_tokens" (by decide)) rfl (by rfl)
  have sl := suf_len sf
  show (pFin l).All _ _
  unfold pFin
  by_cases k : l = []
  · rw [if_pos k]
    subst k
    exact ⟨List.suffix_refl _, xe_nx (ds := []) ⟨_, fun E => ex_ifF (ts_is (ts_test (ev_lt er (ev_lenT et.rd))) (decide_eq_false (by rw [List.length_map]; simp))) ex_next, rfl⟩⟩
  · rw [if_neg k]
    have : 0 < l.length := List.length_pos_iff.mpr k
    exact ⟨List.suffix_refl _, xx_no (ds := []) ⟨_, fun E => xx_ifT (ts_is (ts_test (ev_lt er (ev_lenT et.rd))) (decide_eq_true (by rw [List.length_map]; omega))) (xx_drop (ex_methXM (ds := []) (i := 0) (fs0 := rdF ts (ts.length - l.length) h) rfl (by rfl) ag_nil rfl (hr ts l h)))⟩⟩
theorem ts_skY {Rs : Rel} (hs : CSk C Rs) {ts l : List Str} {h : Nat} {t : Str} {r : Rho} (sf : l <:+ ts) (e : hd l = t) (ht : t ≠ "") : TsZ K (tB (tMeth C "_skip" (SpZ K Rs) [] E0 (tVar 0) (tCons (tC (.str t)) tNil))) (.mu (rdS C ts l h) :: r) (.mu (rdS C ts l.tail h) :: r) true :=
  ts_B (ev_methM (ds := [.str t]) (i := 0) (fs0 := rdF ts (ts.length - l.length) h) rfl (by rfl) (ag_cons ev_str ag_nil) rfl (sk_y hs sf e ht))
theorem ts_skN {Rs : Rel} (hs : CSk C Rs) {ts l : List Str} {h : Nat} {t : Str} {r : Rho} (sf : l <:+ ts) (e : hd l ≠ t) : TsZ K (tB (tMeth C "_skip" (SpZ K Rs) [] E0 (tVar 0) (tCons (tC (.str t)) tNil))) (.mu (rdS C ts l h) :: r) (.mu (rdS C ts l h) :: r) false :=
  ts_B (ev_methM (ds := [.str t]) (i := 0) (fs0 := rdF ts (ts.length - l.length) h) rfl (by rfl) (ag_cons ev_str ag_nil) rfl (sk_n hs sf e))
theorem m0_ok {R : Rel} {RX : RelX} {E : L2.St → XK} {ts l n : List Str} {h : Nat} {m : Str} {d : D} {r : Rho} (hR : R [.mu (rdS C ts l h)] (.fr d) [.mu (rdS C ts n h)]) (nf : ∀ ts r h, (rdF ts r h).lookup m = none := by intros; rfl) : EvZ K (L2H.tMethH C m (SpX K R RX) E (tVar 0) tNil) (.mu (rdS C ts l h) :: r) (.mu (rdS C ts n h) :: r) d :=
  ev_methXM (ds := []) (i := 0) (fs0 := rdF ts (ts.length - l.length) h) rfl (nf _ _ _) ag_nil rfl hR
theorem m0_no {R : Rel} {RX : RelX} {W : WX} {ts l : List Str} {h : Nat} {m : Str} {e : Exn} {r : Rho} (hR : RX [.mu (rdS C ts l h)] e [.no]) (nf : ∀ ts r h, (rdF ts r h).lookup m = none := by intros; rfl) : EvX K W (tMethX C m (SpX K R RX) W (tVar 0) tNil) (.mu (rdS C ts l h) :: r) (.no :: r) e :=
  ex_methXM (ds := []) (i := 0) (fs0 := rdF ts (ts.length - l.length) h) rfl (nf _ _ _) ag_nil rfl hR
theorem mx_ok {R : Rel} {RX : RelX} {E : L2.St → XK} {ts l n : List Str} {h : Nat} {d : D} {r : Rho} {t : Str} (hR : R [.mu (rdS C ts l h), .fr (.str t)] (.fr d) [.mu (rdS C ts n h), .fr (.str t)]) : EvZ K (L2H.tMethH C "_expect" (SpX K R RX) E (tVar 0) (tCons (tC (.str t)) tNil)) (.mu (rdS C ts l h) :: r) (.mu (rdS C ts n h) :: r) d :=
  ev_methXM (ds := [.str t]) (i := 0) (fs0 := rdF ts (ts.length - l.length) h) rfl (by rfl) (ag_cons ev_str ag_nil) rfl hR
theorem mx_no {R : Rel} {RX : RelX} {W : WX} {ts l : List Str} {h : Nat} {e : Exn} {r : Rho} {t : Str} (hR : RX [.mu (rdS C ts l h), .fr (.str t)] e [.no, .fr (.str t)]) : EvX K W (tMethX C "_expect" (SpX K R RX) W (tVar 0) (tCons (tC (.str t)) tNil)) (.mu (rdS C ts l h) :: r) (.no :: r) e :=
  ex_methXM (ds := [.str t]) (i := 0) (fs0 := rdF ts (ts.length - l.length) h) rfl (by rfl) (ag_cons ev_str ag_nil) rfl hR
theorem mz_tk {R : Rel} (ht : CTk C R) {ts l : List Str} {h : Nat} {r : Rho} (sf : l <:+ ts) (hl : l ≠ []) : EvZ K (tMeth C "_take" (SpZ K R) [] E0 (tVar 0) tNil) (.mu (rdS C ts l h) :: r) (.mu (rdS C ts l.tail h) :: r) (.str (hd l)) :=
  ev_methM (ds := []) (i := 0) (fs0 := rdF ts (ts.length - l.length) h) rfl (by rfl) ag_nil rfl (tk_s ht sf hl)
theorem mz_pk {R : Rel} (hp : CPk C R) {ts l : List Str} {h : Nat} {r : Rho} (sf : l <:+ ts) : EvZ K (tMeth C "_peek" (SpZ K R) [] E0 (tVar 0) tNil) (.mu (rdS C ts l h) :: r) (.mu (rdS C ts l h) :: r) (.str (hd l)) :=
  ev_methM (ds := []) (i := 0) (fs0 := rdF ts (ts.length - l.length) h) rfl (by rfl) ag_nil rfl (pk_s hp sf)
theorem own0 {a b : MO} {r : Rho} : OwnIn (.mu a :: r) (.mu b :: r) := fun j es e => by
  cases j with
  | zero => exact ⟨b, rfl⟩
  | succ j => exact ⟨es, e⟩
/-! ### paths -/
theorem wd_good {l m : List Str} {w : Str} (h : pWd l = .ok w m) : wordB w = true ∧ m.length + 1 = l.length := by
  unfold pWd at h
  by_cases k : wordB (hd l) = true
  · rw [if_pos k] at h
    cases h
    exact ⟨k, tl_len fun z => by
      subst z
      have := (word_len k).1
      exact absurd this (by decide)⟩
  · rw [if_neg k] at h
    cases h
theorem path_loop {Rs Rw : Rel} {RXw : RelX} (hs : CSk C Rs) (hw : Do C CF Rw RXw .str [] fun _ l => pWd l) {ts : List Str} {h : Nat} (ok : TsOk ts) (hh : h ≤ 10) : ∀ (n : Nat) (ws l : List Str), l <:+ ts → l.length < n → GoodW ws → ws ≠ [] → ws.length + l.length ≤ 1000 →
    (pPathT n ws l).All (fun us m => m <:+ l ∧ GoodW us ∧ us ≠ [] ∧ us.length + m.length ≤ 1000 ∧ ∀ E, WhileZ K [0] (tB (tMeth C "_skip" (SpZ K Rs) [] E0 (tVar 0) (tCons (tC (.str "/")) tNil))) (xb_Reader__path_1 K Rs Rw RXw C E) n [.mu (rdS C ts l h), .own (ws.map .str)] (.nx [.mu (rdS C ts m h), .own (us.map .str)]))
      fun m => m <:+ l ∧ ∃ ρ2, ∀ E, WhileX K [0] (wOf E) (tB (tMeth C "_skip" (SpZ K Rs) [] E0 (tVar 0) (tCons (tC (.str "/")) tNil))) (xb_Reader__path_1 K Rs Rw RXw C E) n [.mu (rdS C ts l h), .own (ws.map .str)] ρ2 (fault CF ts m)
  | 0, ws, l, _, hn, _, _, _ => absurd hn (Nat.not_lt_zero _)
  | n + 1, ws, l, sf, hn, hg, hne, hz => by
    unfold pPathT
    by_cases e : hd l = "/"
    · rw [if_pos e]
      have hl := hd_ne e (by decide)
      have tl := tl_len hl
      have st := suf_tl sf
      have hy : TsZ K (tB (tMeth C "_skip" (SpZ K Rs) [] E0 (tVar 0) (tCons (tC (.str "/")) tNil))) [.mu (rdS C ts l h), .own (ws.map .str)] [.mu (rdS C ts l.tail h), .own (ws.map .str)] true := ts_skY hs sf e (by decide)
      refine (hw ts h l.tail ok hh st).bind (fun w m hp z => ?_) fun m hp z => ⟨z.1.trans (List.tail_suffix l), _, fun E => .here hy (xx_app (i := 1) rfl (ex_methXM (ds := []) (i := 0) (fs0 := rdF ts (ts.length - l.tail.length) h) rfl (by rfl) ag_nil rfl z.2))⟩
      obtain ⟨g1, g2⟩ := wd_good hp
      have sm := z.1.trans (List.tail_suffix l)
      have app : ∀ E, ExZ K [0] (xb_Reader__path_1 K Rs Rw RXw C E) [.mu (rdS C ts l.tail h), .own (ws.map .str)] (.nx [.mu (rdS C ts m h), .own ((ws ++ [w]).map .str)]) := fun E => by
        rw [List.map_append]
        exact ex_app (i := 1) (ev_methXM (ds := []) (i := 0) (fs0 := rdF ts (ts.length - l.tail.length) h) rfl (by rfl) ag_nil rfl z.2) rfl rfl (by rw [List.length_map]; omega)
      refine (path_loop hs hw ok hh (h := h) n (ws ++ [w]) m (z.1.trans st) (by omega) (fun x hx => by
        rcases List.mem_append.mp hx with y | y
        · exact hg x y
        · rw [List.mem_singleton.mp y]; exact g1) (by simp) (by rw [List.length_append, List.length_cons, List.length_nil]; omega)).imp (fun us m' q => ?_) fun m' q => ?_
      · obtain ⟨q1, q2, q3, q4, q5⟩ := q
        exact ⟨q1.trans sm, q2, q3, q4, fun E => .step hy (app E) (q5 E)⟩
      · obtain ⟨q1, ρ2, q2⟩ := q
        exact ⟨q1.trans sm, ρ2, fun E => .step hy (app E) (q2 E)⟩
    · rw [if_neg e]
      exact ⟨List.suffix_refl l, hg, hne, hz, fun E => .stop (ts_B (ev_methM (ds := [.str "/"]) (i := 0) (fs0 := rdF ts (ts.length - l.length) h) rfl (by rfl) (ag_cons ev_str ag_nil) rfl (sk_n hs sf e)))⟩
theorem do_path {Rs Rw : Rel} {RXw : RelX} (hs : CSk C Rs) (hw : Do C CF Rw RXw .str [] fun _ l => pWd l) : Do C CF (RelOfE K [0] (fun E => tx_Reader__path K Rs Rw RXw C E) 2 1) (RelOfX K [0] (fun E => tx_Reader__path K Rs Rw RXw C E) 2 1) (fun ws => .str (pathS ws)) [] (fun _ l => pPath l) := fun ts h l ok hh sf => by
  show (pPath l).All _ _
  unfold pPath
  refine (hw ts h l ok hh sf).bind (fun w m hp z => ?_) fun m hp z => ⟨z.1, xx_no (ds := []) ⟨_, fun E => xx_seqX (xx_asg (evx_lst (ax_here (ex_methXM (ds := []) (i := 0) (fs0 := rdF ts (ts.length - l.length) h) rfl (by rfl) ag_nil rfl z.2))))⟩⟩
  obtain ⟨g1, g2⟩ := wd_good hp
  have sl := suf_len sf
  have s1 : ∀ E, ExZ K [0] (tAsg (tLst (tCons (tMethX C "_word" (SpX K Rw RXw) (wOf E) (tVar 0) tNil) tNil)) (gName 1)) [.mu (rdS C ts l h), .no] (.nx [.mu (rdS C ts m h), .own ([w].map .str)]) := fun E =>
    ex_setN (i := 1) (en_lst (ag_cons (ev_methXM (ds := []) (i := 0) (fs0 := rdF ts (ts.length - l.length) h) rfl (by rfl) ag_nil rfl z.2) ag_nil) (by show 1 ≤ 100000; decide)) own0 (by decide)
  refine (path_loop (K := K) hs hw ok hh (h := h) (m.length + 1) [w] m (z.1.trans sf) (by omega) (fun x hx => by rw [List.mem_singleton.mp hx]; exact g1) (by simp) (by have := ok.1; simp only [List.length_cons, List.length_nil]; omega)).imp (fun us m' q => ?_) fun m' q => ?_
  · obtain ⟨q1, q2, q3, q4, q5⟩ := q
    have sl : (slS : Str).length = 1 := by decide +kernel
    have sm := sum_le (l := us) (b := 8) fun s hs' => (word_len (q2 s hs')).2
    exact ⟨q1.trans z.1, xe_rt (ds := []) ⟨_, fun E => ex_seq (s1 E) (ex_seq (ex_while (q5 E)) (ex_ret (ev_join (a := slS) ev_str (rd_own (i := 1) rfl) (by rw [sl]; omega)))), rfl⟩⟩
  · obtain ⟨q1, ρ2, q2⟩ := q
    exact ⟨q1.trans z.1, xx_no (ds := []) ⟨_, fun E => xx_seq (s1 E) (xx_seqX (xx_while (q2 E)))⟩⟩
/-! ### conditions -/
theorem ps_loop {Rs Re Rp Rw : Rel} {RXe RXp RXw : RelX} (hs : CSk C Rs) (hp : Do C CF Rp RXp (fun ws => .str (pathS ws)) [] fun _ l => pPath l) {ts : List Str} {h : Nat} (ok : TsOk ts) (hh : h ≤ 10) {c1 : Cell} : ∀ (n : Nat) (ps : List (List Str)) (l : List Str), l <:+ ts → l.length < n → ps.length + l.length ≤ 1000 →
    (pPsT n ps l).All (fun us m => m <:+ l ∧ us.length + m.length ≤ 1000 ∧ ∀ E, WhileZ K [0] (tB (tMeth C "_skip" (SpZ K Rs) [] E0 (tVar 0) (tCons (tC (.str ",")) tNil))) (xb_Reader__condition_1 K Rs Re RXe Rp RXp Rw RXw C E) n [.mu (rdS C ts l h), c1, .own (psD ps)] (.nx [.mu (rdS C ts m h), c1, .own (psD us)]))
      fun m => m <:+ l ∧ ∃ ρ2, ∀ E, WhileX K [0] (wOf E) (tB (tMeth C "_skip" (SpZ K Rs) [] E0 (tVar 0) (tCons (tC (.str ",")) tNil))) (xb_Reader__condition_1 K Rs Re RXe Rp RXp Rw RXw C E) n [.mu (rdS C ts l h), c1, .own (psD ps)] ρ2 (fault CF ts m)
  | 0, _, l, _, hn, _ => absurd hn (Nat.not_lt_zero _)
  | n + 1, ps, l, sf, hn, hz => by
    unfold pPsT
    by_cases e : hd l = ","
    · rw [if_pos e]
      have hl := hd_ne e (by decide)
      have tl := tl_len hl
      have st := suf_tl sf
      have hy : TsZ K (tB (tMeth C "_skip" (SpZ K Rs) [] E0 (tVar 0) (tCons (tC (.str ",")) tNil))) [.mu (rdS C ts l h), c1, .own (psD ps)] [.mu (rdS C ts l.tail h), c1, .own (psD ps)] true := ts_skY hs sf e (by decide)
      refine (hp ts h l.tail ok hh st).bind (fun p m _ z => ?_) fun m _ z => ⟨z.1.trans (List.tail_suffix l), _, fun E => .here hy (xx_app (i := 2) rfl (m0_no z.2))⟩
      have sm := z.1.trans (List.tail_suffix l)
      have lm := z.1.length_le
      have app : ∀ E, ExZ K [0] (xb_Reader__condition_1 K Rs Re RXe Rp RXp Rw RXw C E) [.mu (rdS C ts l.tail h), c1, .own (psD ps)] (.nx [.mu (rdS C ts m h), c1, .own (psD (ps ++ [p]))]) := fun E => by
        unfold psD
        rw [List.map_append, List.map_append]
        exact ex_app (i := 2) (m0_ok z.2) rfl rfl (by rw [List.length_map, List.length_map]; omega)
      refine (ps_loop (Re := Re) (Rw := Rw) (RXe := RXe) (RXw := RXw) (c1 := c1) hs hp ok hh (h := h) n (ps ++ [p]) m (z.1.trans st) (by omega) (by rw [List.length_append, List.length_cons, List.length_nil]; omega)).imp (fun us m' q => ?_) fun m' q => ?_
      · obtain ⟨q1, q4, q5⟩ := q
        exact ⟨q1.trans sm, q4, fun E => .step hy (app E) (q5 E)⟩
      · obtain ⟨q1, ρ2, q2⟩ := q
        exact ⟨q1.trans sm, ρ2, fun E => .step hy (app E) (q2 E)⟩
    · rw [if_neg e]
      exact ⟨List.suffix_refl l, hz, fun E => .stop (ts_skN hs sf e)⟩
theorem ps_fin {us : List (List Str)} : (psD us).length = us.length := by unfold psD; rw [List.length_map, List.length_map]
theorem do_cd {Rs Re Rp Rw : Rel} {RXe RXp RXw : RelX} (hs : CSk C Rs) (he : ∀ t : Str, t ≠ "" → Do C CF Re RXe (fun _ => .non) [.str t] fun _ l => pEx t l) (hp : Do C CF Rp RXp (fun ws => .str (pathS ws)) [] fun _ l => pPath l) (hw : Do C CF Rw RXw .str [] fun _ l => pWd l) :
    Do C CF (RelOfE K [0] (fun E => tx_Reader__condition K Rs Re RXe Rp RXp Rw RXw C E) 3 1) (RelOfX K [0] (fun E => tx_Reader__condition K Rs Re RXe Rp RXp Rw RXw C E) 3 1) cdD [] (fun _ l => pCd l) := fun ts h l ok hh sf => by
  show (pCd l).All _ _
  unfold pCd
  have l0 := suf_len sf
  have ok1 := ok.1
  refine (hw ts h l ok hh sf).bind (fun w m1 hw1 z1 => ?_) fun m _ z => ⟨z.1, xx_no (ds := []) ⟨_, fun E => xx_seqX (xx_asg (m0_no z.2))⟩⟩
  have s1 : ∀ E, ExZ K [0] (tAsg (tMethX C "_word" (SpX K Rw RXw) (wOf E) (tVar 0) tNil) (gName 1)) [.mu (rdS C ts l h), .no, .no] (.nx [.mu (rdS C ts m1 h), .fr (.str w), .no]) := fun E => ex_set (i := 1) (m0_ok z1.2) (by decide)
  have f1 := z1.1.trans sf
  refine (he "in" (by decide) ts h m1 ok hh f1).bind (fun _ m2 _ z2 => ?_) fun m _ z => ⟨z.1.trans z1.1, xx_no (ds := []) ⟨_, fun E => xx_seq (s1 E) (xx_seqX (xx_drop (mx_no z.2)))⟩⟩
  have s2 : ∀ E, ExZ K [0] (tDrop (tMethX C "_expect" (SpX K Re RXe) (wOf E) (tVar 0) (tCons (tC (.str "in")) tNil))) [.mu (rdS C ts m1 h), .fr (.str w), .no] (.nx [.mu (rdS C ts m2 h), .fr (.str w), .no]) := fun E => ex_drop (mx_ok z2.2)
  have f2 := z2.1.trans f1
  refine (hp ts h m2 ok hh f2).bind (fun p m3 _ z3 => ?_) fun m _ z => ⟨z.1.trans (z2.1.trans z1.1), xx_no (ds := []) ⟨_, fun E => xx_seq (s1 E) (xx_seq (s2 E) (xx_seqX (xx_asg (evx_lst (ax_here (m0_no z.2))))))⟩⟩
  have s3 : ∀ E, ExZ K [0] (tAsg (tLst (tCons (tMethX C "_path" (SpX K Rp RXp) (wOf E) (tVar 0) tNil) tNil)) (gName 2)) [.mu (rdS C ts m2 h), .fr (.str w), .no] (.nx [.mu (rdS C ts m3 h), .fr (.str w), .own (psD [p])]) := fun E =>
    ex_setN (i := 2) (en_lst (ag_cons (m0_ok z3.2) ag_nil) (by show 1 ≤ 100000; decide)) own0 (by decide)
  have f3 := z3.1.trans f2
  have t3 : m3 <:+ l := z3.1.trans (z2.1.trans z1.1)
  have w1 := (wd_good hw1).2
  have n3 : m3.length ≤ m1.length := (z3.1.trans z2.1).length_le
  refine (ps_loop (K := K) (Re := Re) (Rw := Rw) (RXe := RXe) (RXw := RXw) hs hp ok hh (h := h) (c1 := .fr (.str w)) (m3.length + 1) [p] m3 f3 (by omega) (by simp only [List.length_cons, List.length_nil]; omega)).bind (fun us m4 _ q => ?_) fun m _ q => ?_
  · obtain ⟨q1, q4, q5⟩ := q
    exact ⟨q1.trans t3, xe_rt (ds := []) ⟨_, fun E => ex_seq (s1 E) (ex_seq (s2 E) (ex_seq (s3 E) (ex_seq (ex_while (q5 E)) (ex_ret (ev_tup (ds := [.str w, .tup (psD us)]) (ag_cons (ev_var (i := 1) rfl) (ag_cons (ev_tupO (i := 2) rfl) ag_nil)) (by show 2 ≤ 100000; decide)))))), rfl⟩⟩
  · obtain ⟨q1, ρ2, q2⟩ := q
    exact ⟨q1.trans t3, xx_no (ds := []) ⟨_, fun E => xx_seq (s1 E) (xx_seq (s2 E) (xx_seq (s3 E) (xx_seqX (xx_while (q2 E)))))⟩⟩
theorem cs_loop {Rs Rc : Rel} {RXc : RelX} (hs : CSk C Rs) (hc : Do C CF Rc RXc cdD [] fun _ l => pCd l) {ts : List Str} {h : Nat} (ok : TsOk ts) (hh : h ≤ 10) : ∀ (n : Nat) (cs : List Cd) (l : List Str), l <:+ ts → l.length < n → cs.length + l.length ≤ 1000 →
    (pCsT n cs l).All (fun us m => m <:+ l ∧ us.length + m.length ≤ 1000 ∧ ∀ E, WhileZ K [0] (tB (tMeth C "_skip" (SpZ K Rs) [] E0 (tVar 0) (tCons (tC (.str "and")) tNil))) (xb_Reader__conditions_1 K Rs Rc RXc C E) n [.mu (rdS C ts l h), .own (cs.map cdD)] (.nx [.mu (rdS C ts m h), .own (us.map cdD)]))
      fun m => m <:+ l ∧ ∃ ρ2, ∀ E, WhileX K [0] (wOf E) (tB (tMeth C "_skip" (SpZ K Rs) [] E0 (tVar 0) (tCons (tC (.str "and")) tNil))) (xb_Reader__conditions_1 K Rs Rc RXc C E) n [.mu (rdS C ts l h), .own (cs.map cdD)] ρ2 (fault CF ts m)
  | 0, _, l, _, hn, _ => absurd hn (Nat.not_lt_zero _)
  | n + 1, cs, l, sf, hn, hz => by
    unfold pCsT
    by_cases e : hd l = "and"
    · rw [if_pos e]
      have hl := hd_ne e (by decide)
      have tl := tl_len hl
      have st := suf_tl sf
      have hy : TsZ K (tB (tMeth C "_skip" (SpZ K Rs) [] E0 (tVar 0) (tCons (tC (.str "and")) tNil))) [.mu (rdS C ts l h), .own (cs.map cdD)] [.mu (rdS C ts l.tail h), .own (cs.map cdD)] true := ts_skY hs sf e (by decide)
      refine (hc ts h l.tail ok hh st).bind (fun p m _ z => ?_) fun m _ z => ⟨z.1.trans (List.tail_suffix l), _, fun E => .here hy (xx_app (i := 1) rfl (m0_no z.2))⟩
      have sm := z.1.trans (List.tail_suffix l)
      have lm := z.1.length_le
      have app : ∀ E, ExZ K [0] (xb_Reader__conditions_1 K Rs Rc RXc C E) [.mu (rdS C ts l.tail h), .own (cs.map cdD)] (.nx [.mu (rdS C ts m h), .own ((cs ++ [p]).map cdD)]) := fun E => by
        rw [List.map_append]
        exact ex_app (i := 1) (m0_ok z.2) rfl rfl (by rw [List.length_map]; omega)
      refine (cs_loop hs hc ok hh (h := h) n (cs ++ [p]) m (z.1.trans st) (by omega) (by rw [List.length_append, List.length_cons, List.length_nil]; omega)).imp (fun us m' q => ?_) fun m' q => ?_
      · obtain ⟨q1, q4, q5⟩ := q
        exact ⟨q1.trans sm, q4, fun E => .step hy (app E) (q5 E)⟩
      · obtain ⟨q1, ρ2, q2⟩ := q
        exact ⟨q1.trans sm, ρ2, fun E => .step hy (app E) (q2 E)⟩
    · rw [if_neg e]
      exact ⟨List.suffix_refl l, hz, fun E => .stop (ts_skN hs sf e)⟩
theorem do_cs {Rs Rc : Rel} {RXc : RelX} (hs : CSk C Rs) (hc : Do C CF Rc RXc cdD [] fun _ l => pCd l) : Do C CF (RelOfE K [0] (fun E => tx_Reader__conditions K Rs Rc RXc C E) 2 1) (RelOfX K [0] (fun E => tx_Reader__conditions K Rs Rc RXc C E) 2 1) (fun cs => .tup (cs.map cdD)) [] (fun _ l => pCs l) := fun ts h l ok hh sf => by
  show (pCs l).All _ _
  unfold pCs
  have l0 := suf_len sf
  have ok1 := ok.1
  by_cases e : hd l = "where"
  · rw [if_pos e]
    have hl := hd_ne e (by decide)
    have tl := tl_len hl
    have st := suf_tl sf
    have s1 : ∀ _ : XK, ExZ K [0] (tIfS (tNot (tB (tMeth C "_skip" (SpZ K Rs) [] E0 (tVar 0) (tCons (tC (.str "where")) tNil)))) (tRet (tTup tNil)) tNext) [.mu (rdS C ts l h), .no] (.nx [.mu (rdS C ts l.tail h), .no]) := fun E => ex_ifF (ts_not (b := true) (ts_skY hs sf e (by decide))) ex_next
    have tt := List.tail_suffix l
    refine (hc ts h l.tail ok hh st).bind (fun p m _ z => ?_) fun m _ z => ⟨z.1.trans tt, xx_no (ds := []) ⟨_, fun E => xx_seq (s1 E) (xx_seqX (xx_asg (evx_lst (ax_here (m0_no z.2)))))⟩⟩
    have lm := z.1.length_le
    have s2 : ∀ E, ExZ K [0] (tAsg (tLst (tCons (tMethX C "_condition" (SpX K Rc RXc) (wOf E) (tVar 0) tNil) tNil)) (gName 1)) [.mu (rdS C ts l.tail h), .no] (.nx [.mu (rdS C ts m h), .own ([p].map cdD)]) := fun E =>
      ex_setN (i := 1) (en_lst (ag_cons (m0_ok z.2) ag_nil) (by show 1 ≤ 100000; decide)) own0 (by decide)
    refine (cs_loop (K := K) hs hc ok hh (h := h) (m.length + 1) [p] m (z.1.trans st) (by omega) (by simp only [List.length_cons, List.length_nil]; omega)).imp (fun us m' q => ?_) fun m' q => ?_
    · obtain ⟨q1, q4, q5⟩ := q
      exact ⟨(q1.trans z.1).trans tt, xe_rt (ds := []) ⟨_, fun E => ex_seq (s1 E) (ex_seq (s2 E) (ex_seq (ex_while (q5 E)) (ex_ret (ev_tupO (i := 1) rfl)))), rfl⟩⟩
    · obtain ⟨q1, ρ2, q2⟩ := q
      exact ⟨(q1.trans z.1).trans tt, xx_no (ds := []) ⟨_, fun E => xx_seq (s1 E) (xx_seq (s2 E) (xx_seqX (xx_while (q2 E))))⟩⟩
  · rw [if_neg e]
    exact ⟨List.suffix_refl l, xe_rt (ds := []) ⟨[.mu (rdS C ts l h), .no], fun E => ex_seqR (ex_ifT (ρ1 := [.mu (rdS C ts l h), .no]) (ts_not (b := false) (ts_skN hs sf e)) (ex_ret (ev_tup (ds := []) ag_nil (by decide)))), rfl⟩⟩
/-! ### factors, terms, expressions -/
def DoB (C CF : Addr) (h0 : Nat) (R : Rel) (RX : RelX) (p : Nat → List Str → Res Tr) : Prop := ∀ (ts : List Str) (h : Nat) (l : List Str), TsOk ts → h0 ≤ h → h ≤ 10 → l <:+ ts →
  (p h l).All (fun a m => m <:+ l ∧ R [.mu (rdS C ts l h)] (.fr a.d) [.mu (rdS C ts m h)]) fun m => m <:+ l ∧ RX [.mu (rdS C ts l h)] (fault CF ts m) [.no]
theorem ex_held {S : List Nat} {ts l : List Str} {h h' : Nat} {r : Rho} {rd : V → V → Hp → VK → Prop} (c : Cls K C) (na : ∀ f ∈ rdNames, NoAttr K C f) (hr : ∀ H (Q : VK), Q (.int (h' : Int)) H → rd (.int (h : Int)) (.int 1) H Q) : ExZ K S (sFldAug K (tVar 0) (tC (.int 1)) rd "_held") (.mu (rdS C ts l h) :: r) (.nx (.mu (rdS C ts l h') :: r)) :=
  ex_fldaug (i := 0) (fs := rdF ts (ts.length - l.length) h) (a := (h : Int)) (b := 1) (r := (h' : Int)) c (na "_held" (by decide)) rfl (by rfl) ev_int (by show 3 < 1000; decide) hr
theorem do_fac {Rs Rc Re Rr Rx : Rel} {RXc RXe RXr RXx : RelX} {cM : V} (c : Cls K C) (na : ∀ f ∈ rdNames, NoAttr K C f) (hM : ∀ H, Dz K H cM (.int 10)) (hs : CSk C Rs) (hc : Do C CF Rc RXc (fun cs => .tup (cs.map cdD)) [] fun _ l => pCs l) (he : ∀ t : Str, t ≠ "" → Do C CF Re RXe (fun _ => .non) [.str t] fun _ l => pEx t l) (hr : CRf C CF RXr) {h0 : Nat}
    (hx : DoB C CF (h0 + 1) Rx RXx fun h l => pExp (pAt (10 - h)) l) :
    DoB C CF h0 (RelOfE K [0] (fun E => tx_Reader__factor K Rs Rc RXc Re RXe Rr RXr Rx RXx cM C E) 2 1) (RelOfX K [0] (fun E => tx_Reader__factor K Rs Rc RXc Re RXe Rr RXr Rx RXx cM C E) 2 1) (fun h l => pFac (pAt (10 - h)) l) := fun ts h l ok g0 hh sf => by
  show (pFac (pAt (10 - h)) l).All _ _
  unfold pFac
  by_cases e : hd l = "sum"
  · rw [if_pos e]
    have st := suf_tl sf
    have tt := List.tail_suffix l
    have sy : TsZ K (tB (tMeth C "_skip" (SpZ K Rs) [] E0 (tVar 0) (tCons (tC (.str "sum")) tNil))) [.mu (rdS C ts l h), .no] [.mu (rdS C ts l.tail h), .no] true := ts_skY hs sf e (by decide)
    refine (hc ts h l.tail ok hh st).bind (fun cs m _ z => ?_) fun m _ z => ⟨z.1.trans tt, xx_no (ds := []) ⟨_, fun E => xx_seqX (xx_ifT sy (xx_ret (evx_tup (ax_cons ev_str (ax_here (m0_no z.2))))))⟩⟩
    exact ⟨z.1.trans tt, xe_rt (ds := []) ⟨_, fun E => ex_seqR (ex_ifT sy (ex_ret (ev_tup (ds := [.str "sum", .tup (cs.map cdD)]) (ag_cons ev_str (ag_cons (m0_ok z.2) ag_nil)) (by show 2 ≤ 100000; decide)))), rfl⟩⟩
  · rw [if_neg e]
    have s1 : ∀ E : XK, ExZ K [0] (tIfS (tB (tMeth C "_skip" (SpZ K Rs) [] E0 (tVar 0) (tCons (tC (.str "sum")) tNil))) (tRet (tTup (tCons (tC (.str "sum")) (tCons (tMethX C "_conditions" (SpX K Rc RXc) (wOf E) (tVar 0) tNil) tNil)))) tNext) [.mu (rdS C ts l h), .no] (.nx [.mu (rdS C ts l h), .no]) := fun E => ex_ifF (ts_skN hs sf e) ex_next
    have eh : TsZ K (tTest (tOp rEq (tFld K (tVar 0) "_held") (tC cM))) [.mu (rdS C ts l h), .no] [.mu (rdS C ts l h), .no] (decide ((h : Int) = 10)) := ts_test (ev_eqI (ev_fldO (i := 0) (fs := rdF ts (ts.length - l.length) h) c (na "_held" (by decide)) rfl (by rfl)) (ev_c hM))
    by_cases q : h = 10
    · subst q
      exact ⟨List.suffix_refl l, xx_no (ds := []) ⟨_, fun E => xx_seq (s1 E) (xx_seqX (xx_ifT (ts_is eh (by decide)) (xx_drop (m0_no (hr ts l 10)))))⟩⟩
    · have e10 : 10 - h = (10 - (h + 1)) + 1 := by omega
      rw [e10]
      show ((pEx "(" l).bind fun _ l1 => (pExp (pAt (10 - (h + 1))) l1).bind fun t l2 => (pEx ")" l2).bind fun _ l3 => .ok t l3).All _ _
      have s2 : ∀ E : XK, ExZ K [0] (tIfS (tTest (tOp rEq (tFld K (tVar 0) "_held") (tC cM))) (tDrop (tMethX C "_refuse" (SpX K Rr RXr) (wOf E) (tVar 0) tNil)) tNext) [.mu (rdS C ts l h), .no] (.nx [.mu (rdS C ts l h), .no]) := fun E => ex_ifF (ts_is eh (decide_eq_false (by omega))) ex_next
      refine (he "(" (by decide) ts h l ok hh sf).bind (fun _ m1 _ z1 => ?_) fun m _ z => ⟨z.1, xx_no (ds := []) ⟨_, fun E => xx_seq (s1 E) (xx_seq (s2 E) (xx_seqX (xx_drop (mx_no z.2))))⟩⟩
      have f1 := z1.1.trans sf
      have s3 : ∀ E : XK, ExZ K [0] (tDrop (tMethX C "_expect" (SpX K Re RXe) (wOf E) (tVar 0) (tCons (tC (.str "(")) tNil))) [.mu (rdS C ts l h), .no] (.nx [.mu (rdS C ts m1 h), .no]) := fun E => ex_drop (mx_ok z1.2)
      have s4 : ExZ K [0] (sFldAug K (tVar 0) (tC (.int 1)) rAdd "_held") [.mu (rdS C ts m1 h), .no] (.nx [.mu (rdS C ts m1 (h + 1)), .no]) := ex_held c na fun H Q y => ⟨(h : Int), 1, rfl, rfl, by
        rw [show (h : Int) + 1 = ((h + 1 : Nat) : Int) by omega]
        exact y⟩
      refine (hx ts (h + 1) m1 ok (by omega) (by omega) f1).bind (fun t m2 _ z2 => ?_) fun m _ z => ⟨z.1.trans z1.1, xx_no (ds := []) ⟨_, fun E => xx_seq (s1 E) (xx_seq (s2 E) (xx_seq (s3 E) (xx_seq s4 (xx_seqX (xx_asg (m0_no z.2))))))⟩⟩
      have f2 := z2.1.trans f1
      have s5 : ∀ E : XK, ExZ K [0] (tAsg (tMethX C "expression" (SpX K Rx RXx) (wOf E) (tVar 0) tNil) (gName 1)) [.mu (rdS C ts m1 (h + 1)), .no] (.nx [.mu (rdS C ts m2 (h + 1)), .fr t.d]) := fun E => ex_set (i := 1) (m0_ok z2.2) (by decide)
      refine (he ")" (by decide) ts (h + 1) m2 ok (by omega) f2).bind (fun _ m3 _ z3 => ?_) fun m _ z => ⟨z.1.trans (z2.1.trans z1.1), xx_no (ds := []) ⟨_, fun E => xx_seq (s1 E) (xx_seq (s2 E) (xx_seq (s3 E) (xx_seq s4 (xx_seq (s5 E) (xx_seqX (xx_drop (mx_no z.2)))))))⟩⟩
      have s6 : ∀ E : XK, ExZ K [0] (tDrop (tMethX C "_expect" (SpX K Re RXe) (wOf E) (tVar 0) (tCons (tC (.str ")")) tNil))) [.mu (rdS C ts m2 (h + 1)), .fr t.d] (.nx [.mu (rdS C ts m3 (h + 1)), .fr t.d]) := fun E => ex_drop (mx_ok z3.2)
      have s7 : ExZ K [0] (sFldAug K (tVar 0) (tC (.int 1)) rSub "_held") [.mu (rdS C ts m3 (h + 1)), .fr t.d] (.nx [.mu (rdS C ts m3 h), .fr t.d]) := ex_held c na fun H Q y => ⟨((h + 1 : Nat) : Int), 1, rfl, rfl, by
        rw [show ((h + 1 : Nat) : Int) - 1 = (h : Int) by omega]
        exact y⟩
      exact ⟨z3.1.trans (z2.1.trans z1.1), xe_rt (ds := []) ⟨_, fun E => ex_seq (s1 E) (ex_seq (s2 E) (ex_seq (s3 E) (ex_seq s4 (ex_seq (s5 E) (ex_seq (s6 E) (ex_seq s7 (ex_ret (ev_var (i := 1) rfl)))))))), rfl⟩⟩
def CNn (R : Rel) : Prop := ∀ z : Str, z.length ≤ 1000 → R ([.str z].map .fr) (.fr (.bl (numOk z))) ([.str z].map .fr)
theorem dig_all {l : List Nat} (h : l.all digB = true) : NumText.AllDigits l := fun c hc => by
  have := List.all_eq_true.mp h c hc
  unfold digB at this
  simp only [Bool.and_eq_true, decide_eq_true_eq] at this
  exact this
theorem num_val {z : Str} (h : numB z.cps.toList = true) (hl : z.length ≤ 640) : PySem.intText? z = some ((numV z : Nat) : Int) := by
  unfold numB at h
  rw [Bool.and_eq_true, Bool.and_eq_true] at h
  have ne : z.cps.toList ≠ [] := fun e => by
    have := h.1.1
    rw [e] at this
    exact absurd this (by decide)
  exact PySem.intText_digits (dig_all h.1.2) ne (by omega)
theorem rel_nn {Rn : Rel} {cG : V} (hG : ∀ H, Dz K H cG (.int 1000)) (hn : CNm Rn) : CNn (RelOf K [] (t__is_number K Rn cG) 1 1) := fun z hz => by
  have e4 : ((toString (1000 : Int) : Str)).length = 4 := by decide +kernel
  refine rel_rt (ds := [.str z]) ⟨_, ex_ret (ev_is (ev_andV (b := numB z.cps.toList) (c := decide (z.length ≤ 4) && decide (numV z ≤ 1000)) (ev_callF (ds := [.str z]) (ag_cons (ev_var (i := 0) rfl) ag_nil) (hn z (by omega))) fun hb => ?_) rfl)⟩
  refine ev_andV (ev_is (ev_le (ev_lenS (z := z) (ev_var (i := 0) rfl) (by omega)) (ev_lenS (ev_strI (ev_c hG) (by decide +kernel)) (by rw [e4]; decide))) ?_) fun hl => ?_
  · rw [e4]
    congr 1
    by_cases k : z.length ≤ 4
    · rw [decide_eq_true k, decide_eq_true (by omega)]
    · rw [decide_eq_false k, decide_eq_false (by omega)]
  · have hl := of_decide_eq_true hl
    refine ev_is (ev_le (ev_intT (ev_var (i := 0) rfl) (num_val hb (by omega)) (by omega)) (ev_c hG)) ?_
    congr 1
    by_cases k : numV z ≤ 1000
    · rw [decide_eq_true k, decide_eq_true (by omega)]
    · rw [decide_eq_false k, decide_eq_false (by omega)]
theorem do_trm {Rp Rt Re Rf Rn : Rel} {RXe RXf : RelX} (hp : CPk C Rp) (ht : CTk C Rt) (he : ∀ t : Str, t ≠ "" → Do C CF Re RXe (fun _ => .non) [.str t] fun _ l => pEx t l) (hn : CNn Rn) {h0 : Nat} (hf : DoB C CF h0 Rf RXf fun h l => pFac (pAt (10 - h)) l) :
    DoB C CF h0 (RelOfE K [0] (fun E => tx_Reader__term K Rp Rt Re RXe Rf RXf Rn C E) 2 1) (RelOfX K [0] (fun E => tx_Reader__term K Rp Rt Re RXe Rf RXf Rn C E) 2 1) (fun h l => pTrm (pAt (10 - h)) l) := fun ts h l ok g0 hh sf => by
  show (pTrm (pAt (10 - h)) l).All _ _
  unfold pTrm
  have hN := hn (hd l) (hd_len sf ok)
  by_cases k : numOk (hd l) = true
  · rw [if_pos k]
    rw [k] at hN
    have kb := k
    unfold numOk at kb
    rw [Bool.and_eq_true, Bool.and_eq_true] at kb
    have l4 := of_decide_eq_true kb.2.1
    have hl : l ≠ [] := fun z => by
      subst z
      exact absurd kb.1 (by decide)
    have st := suf_tl sf
    have tt := List.tail_suffix l
    have s1 : ∀ E : XK, ExZ K [0] (tIfS (tNot (tB (tCall (SpZ K Rn) [] E0 (tCons (tMeth C "_peek" (SpZ K Rp) [] E0 (tVar 0) tNil) tNil)))) (tRet (tMethX C "_factor" (SpX K Rf RXf) (wOf E) (tVar 0) tNil)) tNext) [.mu (rdS C ts l h), .no] (.nx [.mu (rdS C ts l h), .no]) := fun E => ex_ifF (ts_not (b := true) (ts_B (ev_callF (ds := [.str (hd l)]) (ag_cons (mz_pk hp sf) ag_nil) hN))) ex_next
    have s2 : ExZ K [0] (tAsg (tCB rIntT (tCons (tMeth C "_take" (SpZ K Rt) [] E0 (tVar 0) tNil) tNil)) (gName 1)) [.mu (rdS C ts l h), .no] (.nx [.mu (rdS C ts l.tail h), .fr (.int (numV (hd l) : Int))]) := ex_set (i := 1) (ev_intT (mz_tk ht sf hl) (num_val kb.1 (by omega)) (by omega)) (by decide)
    refine (he "*" (by decide) ts h l.tail ok hh st).bind (fun _ m1 _ z1 => ?_) fun m _ z => ⟨z.1.trans tt, xx_no (ds := []) ⟨_, fun E => xx_seq (s1 E) (xx_seq s2 (xx_seqX (xx_drop (mx_no z.2))))⟩⟩
    have f1 := z1.1.trans st
    have s3 : ∀ E : XK, ExZ K [0] (tDrop (tMethX C "_expect" (SpX K Re RXe) (wOf E) (tVar 0) (tCons (tC (.str "*")) tNil))) [.mu (rdS C ts l.tail h), .fr (.int (numV (hd l) : Int))] (.nx [.mu (rdS C ts m1 h), .fr (.int (numV (hd l) : Int))]) := fun E => ex_drop (mx_ok z1.2)
    refine (hf ts h m1 ok g0 hh f1).bind (fun t m2 _ z2 => ?_) fun m _ z => ⟨z.1.trans (z1.1.trans tt), xx_no (ds := []) ⟨_, fun E => xx_seq (s1 E) (xx_seq s2 (xx_seq (s3 E) (xx_ret (evx_tup (ax_cons ev_str (ax_cons (ev_var (i := 1) rfl) (ax_here (m0_no z.2))))))))⟩⟩
    exact ⟨z2.1.trans (z1.1.trans tt), xe_rt (ds := []) ⟨_, fun E => ex_seq (s1 E) (ex_seq s2 (ex_seq (s3 E) (ex_ret (ev_tup (ds := [.str "times", .int (numV (hd l) : Int), t.d]) (ag_cons ev_str (ag_cons (ev_var (i := 1) rfl) (ag_cons (m0_ok z2.2) ag_nil))) (by show 3 ≤ 100000; decide))))), rfl⟩⟩
  · rw [if_neg k]
    have k' : numOk (hd l) = false := by simpa using k
    rw [k'] at hN
    have tn : TsZ K (tNot (tB (tCall (SpZ K Rn) [] E0 (tCons (tMeth C "_peek" (SpZ K Rp) [] E0 (tVar 0) tNil) tNil)))) [.mu (rdS C ts l h), .no] [.mu (rdS C ts l h), .no] true := ts_not (b := false) (ts_B (ev_callF (ds := [.str (hd l)]) (ag_cons (mz_pk hp sf) ag_nil) hN))
    refine (hf ts h l ok g0 hh sf).imp (fun t m z => ?_) fun m z => ⟨z.1, xx_no (ds := []) ⟨_, fun E => xx_seqX (xx_ifT tn (xx_ret (m0_no z.2)))⟩⟩
    exact ⟨z.1, xe_rt (ds := []) ⟨_, fun E => ex_seqR (ex_ifT tn (ex_ret (m0_ok z.2))), rfl⟩⟩
theorem more_loop {Rp Rs Rt Rm : Rel} {RXm : RelX} (hp : CPk C Rp) (ht : CTk C Rt) {h0 : Nat} (hm : DoB C CF h0 Rm RXm fun h l => pTrm (pAt (10 - h)) l) {ts : List Str} {h : Nat} (ok : TsOk ts) (g0 : h0 ≤ h) (hh : h ≤ 10) : ∀ (n : Nat) (t : Tr) (l : List Str) (c2 : Cell), l <:+ ts → l.length < n →
    (pMore (pAt (10 - h)) n t l).All (fun u m => m <:+ l ∧ ∃ c2', ∀ E, WhileZ K [0] (tTest (tOp (rIn K false) (tMeth C "_peek" (SpZ K Rp) [] E0 (tVar 0) tNil) (tTup (tCons (tC (.str "+")) (tCons (tC (.str "-")) tNil))))) (xb_Reader_expression_1 K Rp Rs Rt Rm RXm C E) n [.mu (rdS C ts l h), .fr t.d, c2] (.nx [.mu (rdS C ts m h), .fr u.d, c2']))
      fun m => m <:+ l ∧ ∃ ρ2, ∀ E, WhileX K [0] (wOf E) (tTest (tOp (rIn K false) (tMeth C "_peek" (SpZ K Rp) [] E0 (tVar 0) tNil) (tTup (tCons (tC (.str "+")) (tCons (tC (.str "-")) tNil))))) (xb_Reader_expression_1 K Rp Rs Rt Rm RXm C E) n [.mu (rdS C ts l h), .fr t.d, c2] ρ2 (fault CF ts m)
  | 0, _, l, _, _, hn => absurd hn (Nat.not_lt_zero _)
  | n + 1, t, l, c2, sf, hn => by
    unfold pMore
    have tst : TsZ K (tTest (tOp (rIn K false) (tMeth C "_peek" (SpZ K Rp) [] E0 (tVar 0) tNil) (tTup (tCons (tC (.str "+")) (tCons (tC (.str "-")) tNil))))) [.mu (rdS C ts l h), .fr t.d, c2] [.mu (rdS C ts l h), .fr t.d, c2] (decide (hd l ∈ (["+", "-"] : List Str))) :=
      ts_test (ev_inT (neg := false) (zs := ["+", "-"]) (mz_pk hp sf) (ev_tup (ds := [.str "+", .str "-"]) (ag_cons ev_str (ag_cons ev_str ag_nil)) (by decide)).rd)
    by_cases e : hd l = "+" ∨ hd l = "-"
    · rw [if_pos e]
      have hl : l ≠ [] := by
        rcases e with e | e
        · exact hd_ne e (by decide)
        · exact hd_ne e (by decide)
      have tl := tl_len hl
      have st := suf_tl sf
      have tt := List.tail_suffix l
      have ty := ts_is tst (decide_eq_true (by simpa using e))
      have s1 : ExZ K [0] (tAsg (tIf (tTest (tOp rEq (tMeth C "_take" (SpZ K Rt) [] E0 (tVar 0) tNil) (tC (.str "+")))) (tC (.str "plus")) (tC (.str "less"))) (gName 2)) [.mu (rdS C ts l h), .fr t.d, c2] (.nx [.mu (rdS C ts l.tail h), .fr t.d, .fr (.str (if hd l = "+" then "plus" else "less"))]) := by
        have te : TsZ K (tTest (tOp rEq (tMeth C "_take" (SpZ K Rt) [] E0 (tVar 0) tNil) (tC (.str "+")))) [.mu (rdS C ts l h), .fr t.d, c2] [.mu (rdS C ts l.tail h), .fr t.d, c2] (decide (hd l = "+")) := ts_test (ev_eqS (mz_tk ht sf hl) ev_str)
        by_cases q : hd l = "+"
        · rw [if_pos q]
          exact ex_set (i := 2) (ev_ifT (ts_is te (decide_eq_true q)) ev_str) (by decide)
        · rw [if_neg q]
          exact ex_set (i := 2) (ev_ifF (ts_is te (decide_eq_false q)) ev_str) (by decide)
      refine (hm ts h l.tail ok g0 hh st).bind (fun u m _ z => ?_) fun m _ z => ⟨z.1.trans tt, _, fun E => .here ty (xx_seq s1 (xx_asg (evx_tup (ax_cons (ev_var (i := 2) rfl) (ax_cons (ev_var (i := 1) rfl) (ax_here (m0_no z.2)))))))⟩
      have lm := z.1.length_le
      have sm := z.1.trans tt
      have s2 : ∀ E, ExZ K [0] (xb_Reader_expression_1 K Rp Rs Rt Rm RXm C E) [.mu (rdS C ts l h), .fr t.d, c2] (.nx [.mu (rdS C ts m h), .fr (if hd l = "+" then Tr.plus t u else Tr.less t u).d, .fr (.str (if hd l = "+" then "plus" else "less"))]) := fun E => by
        refine ex_seq s1 (ex_set (i := 1) (ev_is (ev_tup (ds := [.str (if hd l = "+" then "plus" else "less"), t.d, u.d]) (ag_cons (ev_var (i := 2) rfl) (ag_cons (ev_var (i := 1) rfl) (ag_cons (m0_ok z.2) ag_nil))) (by show 3 ≤ 100000; decide)) ?_) (by decide))
        by_cases q : hd l = "+"
        · rw [if_pos q, if_pos q]; rfl
        · rw [if_neg q, if_neg q]; rfl
      refine (more_loop (Rs := Rs) hp ht hm ok g0 hh (h := h) n (if hd l = "+" then Tr.plus t u else Tr.less t u) m (.fr (.str (if hd l = "+" then "plus" else "less"))) (z.1.trans st) (by omega)).imp (fun us m' q => ?_) fun m' q => ?_
      · obtain ⟨q1, c2', q5⟩ := q
        exact ⟨q1.trans sm, c2', fun E => .step ty (s2 E) (q5 E)⟩
      · obtain ⟨q1, ρ2, q2⟩ := q
        exact ⟨q1.trans sm, ρ2, fun E => .step ty (s2 E) (q2 E)⟩
    · rw [if_neg e]
      exact ⟨List.suffix_refl l, c2, fun E => .stop (ts_is tst (decide_eq_false (by simpa using e)))⟩
theorem do_exp {Rp Rs Rt Rm : Rel} {RXm : RelX} (hp : CPk C Rp) (hs : CSk C Rs) (ht : CTk C Rt) {h0 : Nat} (hm : DoB C CF h0 Rm RXm fun h l => pTrm (pAt (10 - h)) l) :
    DoB C CF h0 (RelOfE K [0] (fun E => tx_Reader_expression K Rp Rs Rt Rm RXm C E) 3 1) (RelOfX K [0] (fun E => tx_Reader_expression K Rp Rs Rt Rm RXm C E) 3 1) (fun h l => pExp (pAt (10 - h)) l) := fun ts h l ok g0 hh sf => by
  show (pExp (pAt (10 - h)) l).All _ _
  unfold pExp
  have first : (pFst (pAt (10 - h)) l).All (fun t m => m <:+ l ∧ ∀ E, ExZ K [0] (tAsg (tIf (tB (tMeth C "_skip" (SpZ K Rs) [] E0 (tVar 0) (tCons (tC (.str "-")) tNil))) (tTup (tCons (tC (.str "minus")) (tCons (tMethX C "_term" (SpX K Rm RXm) (wOf E) (tVar 0) tNil) tNil))) (tMethX C "_term" (SpX K Rm RXm) (wOf E) (tVar 0) tNil)) (gName 1)) [.mu (rdS C ts l h), .no, .no] (.nx [.mu (rdS C ts m h), .fr t.d, .no]))
      (fun m => m <:+ l ∧ ∀ E, ExX K [0] (wOf E) (tAsg (tIf (tB (tMeth C "_skip" (SpZ K Rs) [] E0 (tVar 0) (tCons (tC (.str "-")) tNil))) (tTup (tCons (tC (.str "minus")) (tCons (tMethX C "_term" (SpX K Rm RXm) (wOf E) (tVar 0) tNil) tNil))) (tMethX C "_term" (SpX K Rm RXm) (wOf E) (tVar 0) tNil)) (gName 1)) [.mu (rdS C ts l h), .no, .no] [.no, .no, .no] (fault CF ts m)) := by
    unfold pFst
    by_cases e : hd l = "-"
    · rw [if_pos e]
      have st := suf_tl sf
      have tt := List.tail_suffix l
      have sy : TsZ K (tB (tMeth C "_skip" (SpZ K Rs) [] E0 (tVar 0) (tCons (tC (.str "-")) tNil))) [.mu (rdS C ts l h), .no, .no] [.mu (rdS C ts l.tail h), .no, .no] true := ts_skY hs sf e (by decide)
      refine (hm ts h l.tail ok g0 hh st).bind (fun u m _ z => ?_) fun m _ z => ⟨z.1.trans tt, fun E => xx_asg (evx_ifT sy (evx_tup (ax_cons ev_str (ax_here (m0_no z.2)))))⟩
      exact ⟨z.1.trans tt, fun E => ex_set (i := 1) (ev_ifT sy (ev_tup (ds := [.str "minus", u.d]) (ag_cons ev_str (ag_cons (m0_ok z.2) ag_nil)) (by show 2 ≤ 100000; decide))) (by decide)⟩
    · rw [if_neg e]
      have sn : TsZ K (tB (tMeth C "_skip" (SpZ K Rs) [] E0 (tVar 0) (tCons (tC (.str "-")) tNil))) [.mu (rdS C ts l h), .no, .no] [.mu (rdS C ts l h), .no, .no] false := ts_skN hs sf e
      refine (hm ts h l ok g0 hh sf).imp (fun u m z => ?_) fun m z => ⟨z.1, fun E => xx_asg (evx_ifF sn (m0_no z.2))⟩
      exact ⟨z.1, fun E => ex_set (i := 1) (ev_ifF sn (m0_ok z.2)) (by decide)⟩
  refine first.bind (fun t m _ z => ?_) fun m _ z => ⟨z.1, xx_no (ds := []) ⟨_, fun E => xx_seqX (z.2 E)⟩⟩
  refine (more_loop (K := K) (Rs := Rs) hp ht hm ok g0 hh (h := h) (m.length + 1) t m .no (z.1.trans sf) (by omega)).imp (fun u m' q => ?_) fun m' q => ?_
  · obtain ⟨q1, c2', q5⟩ := q
    exact ⟨q1.trans z.1, xe_rt (ds := []) ⟨_, fun E => ex_seq (z.2 E) (ex_seq (ex_while (q5 E)) (ex_ret (ev_var (i := 1) rfl))), rfl⟩⟩
  · obtain ⟨q1, ρ2, q2⟩ := q
    exact ⟨q1.trans z.1, xx_no (ds := []) ⟨_, fun E => xx_seq (z.2 E) (xx_seqX (xx_while (q2 E)))⟩⟩
theorem do_none {p : Nat → List Str → Res Tr} : DoB C CF 11 (fun _ _ _ => False) (fun _ _ _ => False) p := fun ts h l ok g0 hh sf => absurd hh (by omega)
/-! ### read_expression -/
def tokS (z : Str) : List Str := (tokN [] 0 z.cps.toList).map fun t => strN t
def CRx (CF : Addr) (R : Rel) (RX : RelX) : Prop := ∀ z : Str, z.length ≤ 1000 → (pAll (tokS z)).All (fun t _ => R [.fr (.str z)] (.fr t.d) [.fr (.str z)]) fun m => RX [.fr (.str z)] (fault CF (tokS z) m) [.fr (.str z)]
theorem single_le {ls : List (List Nat)} {x : List Nat} (h : x ∈ ls) : x.length ≤ (ls.map List.length).sum := by
  induction ls with
  | nil => cases h
  | cons y ls ih =>
    rw [List.map_cons, List.sum_cons]
    rcases List.mem_cons.mp h with rfl | h
    · omega
    · have := ih h
      omega
theorem tok_le (z : Str) (hz : z.length ≤ 1000) : TsOk (tokS z) := by
  have hl : z.length = z.cps.toList.length := (Array.length_toList).symm
  obtain ⟨a, b⟩ := tok_size z.cps.toList [] 0 (fun h => absurd rfl h)
  refine ⟨by unfold tokS; rw [List.length_map]; simp only [List.length_nil] at b; omega, fun t ht => ?_⟩
  obtain ⟨x, hx, rfl⟩ := List.mem_map.mp ht
  have : x.length ≤ sumL (tokN [] 0 z.cps.toList) := by
    unfold sumL
    exact single_le hx
  have e : (strN x).length = x.length := by show x.toArray.size = _; simp
  have e0 : sumL [] = 0 := rfl
  omega
theorem do_rd {Ri Rx Rf Rt : Rel} {RXx RXf : RelX} (hi : CRi C Ri) (hx : DoB C CF 0 Rx RXx fun h l => pExp (pAt (10 - h)) l) (hf : Do C CF Rf RXf (fun _ => .non) [] fun _ l => pFin l) (ht : CTok Rt) : CRx CF (RelOfE K [] (fun E => tx_read_expression K Ri Rx RXx Rf RXf Rt C E) 3 1) (RelOfX K [] (fun E => tx_read_expression K Ri Rx RXx Rf RXf Rt C E) 3 1) := fun z hz => by
  have ok := tok_le z hz
  have hT := ht z (by omega)
  have et : tkD (tokN [] 0 z.cps.toList) = (tokS z).map .str := by
    unfold tokS
    rw [List.map_map]
    rfl
  rw [et] at hT
  have s1 : ExZ K [] (tAsg (tMake C (SpZ K Ri) [] E0 (tCons (tCall (SpZ K Rt) [] E0 (tCons (tVar 0) tNil)) tNil)) (gName 1)) [.fr (.str z), .no, .no] (.nx [.fr (.str z), .mu (rdS C (tokS z) (tokS z) 0), .no]) := by
    have e0 : (tokS z).length - (tokS z).length = 0 := by omega
    unfold rdS
    rw [e0]
    exact ex_setI (i := 1) (ei_make (ds := [.tup ((tokS z).map .str)]) (ag_cons (ev_callF (ds := [.str z]) (ag_cons (ev_var (i := 0) rfl) ag_nil) hT) ag_nil) (hi (tokS z))) .refl (by decide)
  have fx : ∀ {ρ : Rho}, FinZ [] [.fr (.str z)] [.fr (.str z)] ρ (.fr .non) := fin_fr (ds := [.str z])
  unfold pAll
  refine (hx (tokS z) 0 (tokS z) ok (Nat.le_refl _) (by decide) (List.suffix_refl _)).bind (fun t m _ y => ?_) fun m _ y => ⟨rfl, _, fun E => xx_seq s1 (xx_seqX (xx_asg (ex_methXM (ds := []) (i := 1) (fs0 := rdF (tokS z) ((tokS z).length - (tokS z).length) 0) rfl (by rfl) ag_nil rfl y.2))), fx⟩
  have s2 : ∀ E, ExZ K [] (tAsg (tMethX C "expression" (SpX K Rx RXx) (wOf E) (tVar 1) tNil) (gName 2)) [.fr (.str z), .mu (rdS C (tokS z) (tokS z) 0), .no] (.nx [.fr (.str z), .mu (rdS C (tokS z) m 0), .fr t.d]) := fun E =>
    ex_set (i := 2) (ev_methXM (ds := []) (i := 1) (fs0 := rdF (tokS z) ((tokS z).length - (tokS z).length) 0) rfl (by rfl) ag_nil rfl y.2) (by decide)
  have f := hf (tokS z) 0 m ok (by decide) y.1
  have f' : (pFin m).All _ _ := f
  unfold pFin at f'
  by_cases k : m = []
  · rw [if_pos k] at f'
    obtain ⟨_, f2⟩ := f'
    rw [if_pos k]
    exact ⟨rfl, _, .inl fun E => ex_seq s1 (ex_seq (s2 E) (ex_seq (ex_drop (ev_methXM (ds := []) (i := 1) (fs0 := rdF (tokS z) ((tokS z).length - m.length) 0) rfl (by rfl) ag_nil rfl f2)) (ex_ret (ev_var (i := 2) rfl)))), fin_fr (ds := [.str z])⟩
  · rw [if_neg k] at f'
    obtain ⟨_, f2⟩ := f'
    rw [if_neg k]
    exact ⟨rfl, _, fun E => xx_seq s1 (xx_seq (s2 E) (xx_seqX (xx_drop (ex_methXM (ds := []) (i := 1) (fs0 := rdF (tokS z) ((tokS z).length - m.length) 0) rfl (by rfl) ag_nil rfl f2)))), fx⟩
end
end Pr
end Z

set_option Elab.async false
set_option linter.all false
set_option maxRecDepth 100000
set_option maxHeartbeats 2000000
/-! Law13a: the tokens of a written sum. -/
namespace Z
open PySem PySem.Spec PyProof.Rows L2
open Evl (Ex Ex.refl Ex.trans Ex.new ex_rd ex_l ex_t sq_of st_of fresh_back sz_of sz_lt)
theorem tok_blank (ts : List (List Nat)) (k : Nat) (rest : List Nat) : tokN ts k (32 :: rest) = tokN ts 0 rest := by
  show (if kdN 32 ≠ 0 ∧ kdN 32 = k then _ else if (32 : Nat) ≠ 32 then _ else tokN ts (kdN 32) rest) = _
  rw [kd32, if_neg (fun z => z.1 rfl), if_neg (fun z => z rfl)]
theorem word_tok {w : Str} (h : wordB w = true) : GoodTok (TL.tl w) := by
  refine .inl ⟨1, by decide, fun e => ?_, fun c hc => ?_⟩
  · have := (word_len h).1
    have l := len_tl w
    rw [e] at l
    simp at l
    omega
  · unfold kdN
    rw [if_pos (word_letters h c hc)]
theorem lit_tok {w : Str} (h1 : TL.tl w ≠ []) (h2 : (TL.tl w).all (fun c => decide (kdN c = 1)) = true) : GoodTok (TL.tl w) :=
  .inl ⟨1, by decide, h1, fun c hc => of_decide_eq_true (List.all_eq_true.mp h2 c hc)⟩
end Z

set_option Elab.async false
set_option linter.all false
set_option maxRecDepth 100000
set_option maxHeartbeats 2000000
/-! LawTx: texts of expressions, their tokens, and what the parser makes of them. -/
namespace Z
open PySem PySem.Spec PyProof.Rows L2
namespace Pr
/-! ### pieces of a text, by their tokens -/
def Wk (z : Str) (l : List Str) : Prop := ∀ (ts : List (List Nat)) (rest : List Nat), ∃ k, tokN ts 0 (TL.tl z ++ rest) = tokN (ts ++ l.map TL.tl) k rest
def W0 (z : Str) (l : List Str) : Prop := ∀ (ts : List (List Nat)) (rest : List Nat), tokN ts 0 (TL.tl z ++ rest) = tokN (ts ++ l.map TL.tl) 0 rest
def WA (z : Str) (l : List Str) : Prop := ∀ (ts : List (List Nat)) (k : Nat) (rest : List Nat), tokN ts k (TL.tl z ++ rest) = tokN (ts ++ l.map TL.tl) 0 rest
def Blank (z : Str) : Prop := (∀ c ∈ TL.tl z, c = 32) ∧ z.length ≤ 3
theorem app3 (ts : List (List Nat)) (l m : List Str) : ts ++ l.map TL.tl ++ m.map TL.tl = ts ++ (l ++ m).map TL.tl := by rw [List.map_append, List.append_assoc]
theorem Wk.wa {a b : Str} {l m : List Str} (h : Wk a l) (k : WA b m) : W0 (a ++ b) (l ++ m) := fun ts rest => by
  obtain ⟨j, e⟩ := h ts (TL.tl b ++ rest)
  rw [TL.tl_append, List.append_assoc, e, k, app3]
theorem W0.wk {a b : Str} {l m : List Str} (h : W0 a l) (k : Wk b m) : Wk (a ++ b) (l ++ m) := fun ts rest => by
  obtain ⟨j, e⟩ := k (ts ++ l.map TL.tl) rest
  exact ⟨j, by rw [TL.tl_append, List.append_assoc, h, e, app3]⟩
theorem W0.k {a : Str} {l : List Str} (h : W0 a l) : Wk a l := fun ts rest => ⟨0, h ts rest⟩
theorem WA.w0 {a : Str} {l : List Str} (h : WA a l) : W0 a l := fun ts rest => h ts 0 rest
theorem WA.w0a {a b : Str} {l m : List Str} (h : WA a l) (k : W0 b m) : WA (a ++ b) (l ++ m) := fun ts j rest => by rw [TL.tl_append, List.append_assoc, h, k, app3]
theorem wk_tok {w : Str} (h : GoodTok (TL.tl w)) : Wk w [w] := fun ts rest => tok_one h ts rest
theorem wk_word {w : Str} (h : wordB w = true) : Wk w [w] := wk_tok (word_tok h)
theorem wa_blank : WA " " [] := fun ts k rest => by
  show tokN ts k (32 :: rest) = _
  rw [tok_blank, List.map_nil, List.append_nil]
/-- a sign by itself -/
theorem wa_sign {s : Str} {c : Nat} (e : TL.tl s = [c]) (h0 : kdN c = 0) (h : c ≠ 32) : WA s [s] := fun ts k rest => by
  rw [e]
  show tokN ts k (c :: rest) = tokN (ts ++ [TL.tl s]) 0 rest
  rw [tokN, if_neg (fun z => z.1 h0), if_pos h, h0, e]
theorem bl_at0 : ∀ (z : List Nat) (ts : List (List Nat)) (rest : List Nat), (∀ c ∈ z, c = 32) → tokN ts 0 (z ++ rest) = tokN ts 0 rest
  | [], ts, rest, _ => rfl
  | c :: z, ts, rest, h => by
    have e := h c List.mem_cons_self
    subst e
    show tokN ts 0 (32 :: (z ++ rest)) = _
    rw [tok_blank, bl_at0 z ts rest fun x hx => h x (List.mem_cons_of_mem _ hx)]
theorem bl_any : ∀ (z : List Nat) (ts : List (List Nat)) (k : Nat) (rest : List Nat), (∀ c ∈ z, c = 32) → ∃ k', tokN ts k (z ++ rest) = tokN ts k' rest
  | [], ts, k, rest, _ => ⟨k, rfl⟩
  | c :: z, ts, k, rest, h => by
    have e := h c List.mem_cons_self
    subst e
    refine ⟨0, ?_⟩
    show tokN ts k (32 :: (z ++ rest)) = _
    rw [tok_blank, bl_at0 z ts rest fun x hx => h x (List.mem_cons_of_mem _ hx)]
theorem WA.gapL {g s : Str} {l : List Str} (hg : Blank g) (h : WA s l) : WA (g ++ s) l := fun ts k rest => by
  obtain ⟨k', e⟩ := bl_any (TL.tl g) ts k (TL.tl s ++ rest) hg.1
  rw [TL.tl_append, List.append_assoc, e, h]
theorem WA.gapR {g s : Str} {l : List Str} (hg : Blank g) (h : WA s l) : WA (s ++ g) l := fun ts k rest => by
  rw [TL.tl_append, List.append_assoc, h, bl_at0 _ _ _ hg.1]
theorem W0.gapR {g s : Str} {l : List Str} (hg : Blank g) (h : W0 s l) : W0 (s ++ g) l := fun ts rest => by
  rw [TL.tl_append, List.append_assoc, h, bl_at0 _ _ _ hg.1]
theorem Wk.gapR {g s : Str} {l : List Str} (hg : Blank g) (h : Wk s l) : Wk (s ++ g) l := fun ts rest => by
  obtain ⟨k, e⟩ := h ts (TL.tl g ++ rest)
  obtain ⟨k', e'⟩ := bl_any (TL.tl g) (ts ++ l.map TL.tl) k rest hg.1
  exact ⟨k', by rw [TL.tl_append, List.append_assoc, e, e']⟩
/-! ### joined pieces -/
def tailJ (m : List Str) : List (List Str) → List Str
  | [] => []
  | b :: rs => m ++ (b ++ tailJ m rs)
def joinT (m : List Str) : List (List Str) → List Str
  | [] => []
  | a :: rs => a ++ tailJ m rs
theorem wk_join {sep : Str} {m : List Str} (hs : WA sep m) {α : Type} (f : α → Str) (g : α → List Str) : ∀ (a : α) (as : List α), (∀ x ∈ a :: as, Wk (f x) (g x)) → Wk (Str.join sep ((a :: as).map f)) (joinT m ((a :: as).map g))
  | a, [], h => by
    show Wk (f a) (g a ++ [])
    rw [List.append_nil]
    exact h a List.mem_cons_self
  | a, b :: as, h => by
    have ih := wk_join hs f g b as fun x hx => h x (List.mem_cons_of_mem _ hx)
    have z := ((h a List.mem_cons_self).wa hs).wk ih
    show Wk (f a ++ sep ++ Str.join sep ((b :: as).map f)) (g a ++ (m ++ (g b ++ tailJ m (as.map g))))
    rw [← List.append_assoc (g a) m]
    exact z
/-! ### what is written -/
def pathT (ws : List Str) : List Str := joinT ["/"] (ws.map fun w => [w])
def cdT (c : Cd) : List Str := c.1 :: "in" :: joinT [","] (c.2.map pathT)
def sTok (cs : List Cd) : List Str := "sum" :: (if cs = [] then [] else "where" :: joinT ["and"] (cs.map cdT))
def CdGood (c : Cd) : Prop := wordB c.1 = true ∧ c.2 ≠ [] ∧ ∀ p ∈ c.2, GoodW p ∧ p ≠ []
def numT (n : Nat) : Str := numS (n : Int)
/-- the tokens of a tree: kind (0 a factor, 1 a term, 2 an expression), parentheses open at most -/
inductive TT : Nat → Nat → Tr → List Str → Prop
  | sum {k : Nat} {cs : List Cd} : (∀ c ∈ cs, CdGood c) → TT 0 k (.sum cs) (sTok cs)
  | par {k : Nat} {t : Tr} {l : List Str} : TT 2 k t l → TT 0 (k + 1) t (("(" : Str) :: (l ++ [(")" : Str)]))
  | times {k n : Nat} {t : Tr} {l : List Str} : n ≤ 1000 → TT 0 k t l → TT 1 k (.times n t) (numT n :: ("*" : Str) :: l)
  | fac {k : Nat} {t : Tr} {l : List Str} : TT 0 k t l → TT 1 k t l
  | minus {k : Nat} {t : Tr} {l : List Str} : TT 1 k t l → TT 2 k (.minus t) (("-" : Str) :: l)
  | plus {k : Nat} {a b : Tr} {l m : List Str} : TT 2 k a l → TT 1 k b m → TT 2 k (.plus a b) (l ++ ("+" : Str) :: m)
  | less {k : Nat} {a b : Tr} {l m : List Str} : TT 2 k a l → TT 1 k b m → TT 2 k (.less a b) (l ++ ("-" : Str) :: m)
  | trm {k : Nat} {t : Tr} {l : List Str} : TT 1 k t l → TT 2 k t l
theorem TT.mono {i k k' : Nat} {t : Tr} {l : List Str} (h : TT i k t l) : k ≤ k' → TT i k' t l := by
  induction h generalizing k' with
  | sum h => exact fun _ => .sum h
  | par _ ih => 
    intro hk
    obtain ⟨j, rfl⟩ : ∃ j, k' = j + 1 := ⟨k' - 1, by omega⟩
    exact .par (ih (by omega))
  | times hn _ ih => exact fun hk => .times hn (ih hk)
  | fac _ ih => exact fun hk => .fac (ih hk)
  | minus _ ih => exact fun hk => .minus (ih hk)
  | plus _ _ ih1 ih2 => exact fun hk => .plus (ih1 hk) (ih2 hk)
  | less _ _ ih1 ih2 => exact fun hk => .less (ih1 hk) (ih2 hk)
  | trm _ ih => exact fun hk => .trm (ih hk)
/-! ### the parser reads it -/
def St (rest : List Str) : Prop := hd rest ∈ (["", ")", "+", "-"] : List Str)
theorem pWd_ok {w : Str} {l : List Str} (h : wordB w = true) : pWd (w :: l) = .ok w l := by
  unfold pWd
  exact if_pos h
theorem path_ok : ∀ (vs : List Str) (n : Nat) (ws rest : List Str), GoodW vs → vs.length < n → hd rest ≠ "/" → pPathT n ws (tailJ ["/"] (vs.map fun w => [w]) ++ rest) = .ok (ws ++ vs) rest
  | [], n + 1, ws, rest, _, _, h => by
    unfold pPathT
    show (if hd rest = "/" then _ else Res.ok ws rest) = _
    rw [if_neg h, List.append_nil]
  | v :: vs, n + 1, ws, rest, hg, hn, h => by
    unfold pPathT
    show (if ("/" : Str) = "/" then (pWd (v :: (tailJ ["/"] (vs.map fun w => [w]) ++ rest))).bind _ else _) = _
    rw [if_pos rfl, pWd_ok (hg v List.mem_cons_self)]
    show pPathT n (ws ++ [v]) (tailJ ["/"] (vs.map fun w => [w]) ++ rest) = _
    rw [path_ok vs n (ws ++ [v]) rest (fun x hx => hg x (List.mem_cons_of_mem _ hx)) (by rw [List.length_cons] at hn; omega) h, List.append_assoc]
    rfl
theorem tailJ_len {m : List Str} (hm : 1 ≤ m.length) : ∀ rs : List (List Str), rs.length ≤ (tailJ m rs).length
  | [] => Nat.le_refl _
  | b :: rs => by
    have := tailJ_len hm rs
    show rs.length + 1 ≤ (m ++ (b ++ tailJ m rs)).length
    rw [List.length_append, List.length_append]
    omega
theorem pPath_ok {ws rest : List Str} (hg : GoodW ws) (hne : ws ≠ []) (h : hd rest ≠ "/") : pPath (pathT ws ++ rest) = .ok ws rest := by
  cases ws with
  | nil => exact absurd rfl hne
  | cons w vs =>
    unfold pPath
    show (pWd (w :: (tailJ ["/"] (vs.map fun w => [w]) ++ rest))).bind _ = _
    rw [pWd_ok (hg w List.mem_cons_self)]
    show pPathT _ [w] (tailJ ["/"] (vs.map fun w => [w]) ++ rest) = _
    refine path_ok vs _ [w] rest (fun x hx => hg x (List.mem_cons_of_mem _ hx)) ?_ h
    have := tailJ_len (m := ["/"]) (by decide) (vs.map fun w => [w])
    rw [List.length_map] at this
    rw [List.length_append]
    omega
theorem hd_tailJ {s : Str} {rs : List (List Str)} {rest : List Str} : hd (tailJ [s] rs ++ rest) = s ∨ (rs = [] ∧ hd (tailJ [s] rs ++ rest) = hd rest) := by
  cases rs with
  | nil => exact .inr ⟨rfl, rfl⟩
  | cons b rs => exact .inl rfl
theorem ps_ok : ∀ (qs : List (List Str)) (n : Nat) (ps : List (List Str)) (rest : List Str), (∀ p ∈ qs, GoodW p ∧ p ≠ []) → qs.length < n → hd rest ≠ "/" → hd rest ≠ "," → pPsT n ps (tailJ [","] (qs.map pathT) ++ rest) = .ok (ps ++ qs) rest
  | [], n + 1, ps, rest, _, _, _, h => by
    unfold pPsT
    show (if hd rest = "," then _ else Res.ok ps rest) = _
    rw [if_neg h, List.append_nil]
  | q :: qs, n + 1, ps, rest, hg, hn, h1, h2 => by
    unfold pPsT
    obtain ⟨g1, g2⟩ := hg q List.mem_cons_self
    show (if ("," : Str) = "," then (pPath ((pathT q ++ tailJ [","] (qs.map pathT)) ++ rest)).bind _ else _) = _
    rw [if_pos rfl, List.append_assoc, pPath_ok g1 g2 (by
      rcases hd_tailJ (s := ",") (rs := qs.map pathT) (rest := rest) with e | ⟨_, e⟩
      · rw [e]; decide
      · rw [e]; exact h1)]
    show pPsT n (ps ++ [q]) _ = _
    rw [ps_ok qs n (ps ++ [q]) rest (fun x hx => hg x (List.mem_cons_of_mem _ hx)) (by rw [List.length_cons] at hn; omega) h1 h2, List.append_assoc]
    rfl
theorem cd_ok {c : Cd} {rest : List Str} (hc : CdGood c) (h1 : hd rest ≠ "/") (h2 : hd rest ≠ ",") : pCd (cdT c ++ rest) = .ok c rest := by
  obtain ⟨c1, ps⟩ := c
  obtain ⟨g1, g2, g3⟩ := hc
  cases ps with
  | nil => exact absurd rfl g2
  | cons p qs =>
    obtain ⟨a1, a2⟩ := g3 p List.mem_cons_self
    unfold pCd
    show (pWd (c1 :: "in" :: ((pathT p ++ tailJ [","] (qs.map pathT)) ++ rest))).bind _ = _
    rw [pWd_ok g1]
    show (pEx "in" ("in" :: ((pathT p ++ tailJ [","] (qs.map pathT)) ++ rest))).bind (fun _ l2 => (pPath l2).bind fun p l3 => (pPsT (l3.length + 1) [p] l3).bind fun ps l4 => Res.ok (c1, ps) l4) = _
    rw [show pEx "in" ("in" :: ((pathT p ++ tailJ [","] (qs.map pathT)) ++ rest)) = .ok () ((pathT p ++ tailJ [","] (qs.map pathT)) ++ rest) from if_pos rfl]
    show (pPath ((pathT p ++ tailJ [","] (qs.map pathT)) ++ rest)).bind _ = _
    rw [List.append_assoc, pPath_ok a1 a2 (by
      rcases hd_tailJ (s := ",") (rs := qs.map pathT) (rest := rest) with e | ⟨_, e⟩
      · rw [e]; decide
      · rw [e]; exact h1)]
    show (pPsT _ [p] (tailJ [","] (qs.map pathT) ++ rest)).bind _ = _
    rw [ps_ok qs _ [p] rest (fun x hx => g3 x (List.mem_cons_of_mem _ hx)) (by
      have := tailJ_len (m := [","]) (by decide) (qs.map pathT)
      rw [List.length_map] at this
      rw [List.length_append]
      omega) h1 h2]
    rfl
theorem cs_ok : ∀ (ds : List Cd) (n : Nat) (cs : List Cd) (rest : List Str), (∀ c ∈ ds, CdGood c) → ds.length < n → hd rest ≠ "/" → hd rest ≠ "," → hd rest ≠ "and" → pCsT n cs (tailJ ["and"] (ds.map cdT) ++ rest) = .ok (cs ++ ds) rest
  | [], n + 1, cs, rest, _, _, _, _, h => by
    unfold pCsT
    show (if hd rest = "and" then _ else Res.ok cs rest) = _
    rw [if_neg h, List.append_nil]
  | c :: ds, n + 1, cs, rest, hg, hn, h1, h2, h3 => by
    unfold pCsT
    show (if ("and" : Str) = "and" then (pCd ((cdT c ++ tailJ ["and"] (ds.map cdT)) ++ rest)).bind _ else _) = _
    have hh := hd_tailJ (s := "and") (rs := ds.map cdT) (rest := rest)
    rw [if_pos rfl, List.append_assoc, cd_ok (hg c List.mem_cons_self) (by
      rcases hh with e | ⟨_, e⟩
      · rw [e]; decide
      · rw [e]; exact h1) (by
      rcases hh with e | ⟨_, e⟩
      · rw [e]; decide
      · rw [e]; exact h2)]
    show pCsT n (cs ++ [c]) _ = _
    rw [cs_ok ds n (cs ++ [c]) rest (fun x hx => hg x (List.mem_cons_of_mem _ hx)) (by rw [List.length_cons] at hn; omega) h1 h2 h3, List.append_assoc]
    rfl
theorem sum_ok {E : Option (List Str → Res Tr)} {cs : List Cd} {rest : List Str} (hg : ∀ c ∈ cs, CdGood c) (h : St rest) : pFac E (sTok cs ++ rest) = .ok (.sum cs) rest := by
  have ne : ∀ s : Str, s ∉ (["", ")", "+", "-"] : List Str) → hd rest ≠ s := fun s hs e => hs (e ▸ h)
  unfold pFac
  show (if ("sum" : Str) = "sum" then (pCs ((if cs = [] then [] else ("where" : Str) :: joinT ["and"] (cs.map cdT)) ++ rest)).bind (fun cs m => Res.ok (Tr.sum cs) m) else _) = _
  rw [if_pos rfl]
  cases cs with
  | nil =>
    rw [if_pos rfl]
    unfold pCs
    show (if hd rest = "where" then _ else Res.ok [] rest).bind _ = _
    rw [if_neg (ne "where" (by decide))]
    rfl
  | cons c ds =>
    rw [if_neg (by simp)]
    unfold pCs
    show (if ("where" : Str) = "where" then (pCd ((cdT c ++ tailJ ["and"] (ds.map cdT)) ++ rest)).bind _ else _).bind _ = _
    have hh := hd_tailJ (s := "and") (rs := ds.map cdT) (rest := rest)
    rw [if_pos rfl, List.append_assoc, cd_ok (hg c List.mem_cons_self) (by
      rcases hh with e | ⟨_, e⟩
      · rw [e]; decide
      · rw [e]; exact ne "/" (by decide)) (by
      rcases hh with e | ⟨_, e⟩
      · rw [e]; decide
      · rw [e]; exact ne "," (by decide))]
    show (pCsT _ [c] (tailJ ["and"] (ds.map cdT) ++ rest)).bind _ = _
    rw [cs_ok ds _ [c] rest (fun x hx => hg x (List.mem_cons_of_mem _ hx)) (by
      have := tailJ_len (m := ["and"]) (by decide) (ds.map cdT)
      rw [List.length_map] at this
      rw [List.length_append]
      omega) (ne "/" (by decide)) (ne "," (by decide)) (ne "and" (by decide))]
    rfl
theorem num_ok {n : Nat} (h : n ≤ 1000) : numOk (numT n) = true ∧ numV (numT n) = n ∧ (numT n).cps.toList = TL.numL n := by
  have e : (numT n).cps.toList = TL.numL n := (numS_tl (n : Int)).1 (by omega)
  have hl : (numT n).length = (numT n).cps.toList.length := (Array.length_toList).symm
  have l4 := TL.numL_len (n := n) (k := 4) (by decide) (by omega)
  have v : numV (numT n) = n := by
    unfold numV
    rw [e, TL.numL_val]
  refine ⟨?_, v, e⟩
  unfold numOk
  rw [v, e, numB_num, decide_eq_true (by rw [hl, e]; exact l4), decide_eq_true h]
  rfl
theorem tt_head {i k : Nat} {t : Tr} {l : List Str} (h : TT i k t l) : l ≠ [] ∧ (i = 0 → ∀ m, numOk (hd (l ++ m)) = false ∧ hd (l ++ m) ≠ "-") ∧ (i = 1 → ∀ m, hd (l ++ m) ≠ "-") := by
  induction h with
  | sum h => exact ⟨by simp [sTok], fun _ m => ⟨by show numOk "sum" = false; decide +kernel, by show ("sum" : Str) ≠ "-"; decide⟩, (fun z => by cases z)⟩
  | par _ _ => exact ⟨by simp, fun _ m => ⟨by show numOk "(" = false; decide +kernel, by show ("(" : Str) ≠ "-"; decide⟩, (fun z => by cases z)⟩
  | times hn _ _ =>
    rename_i n _ _ _ _
    refine ⟨by simp, (fun z => by cases z), fun _ m => ?_⟩
    show numT n ≠ "-"
    intro e
    have := (num_ok hn).1
    rw [e] at this
    exact absurd this (by decide +kernel)
  | fac _ ih => exact ⟨ih.1, (fun z => by cases z), fun _ m => (ih.2.1 rfl m).2⟩
  | minus _ _ => exact ⟨by simp, (fun z => by cases z), (fun z => by cases z)⟩
  | plus _ _ ih _ => exact ⟨by simp, (fun z => by cases z), (fun z => by cases z)⟩
  | less _ _ ih _ => exact ⟨by simp, (fun z => by cases z), (fun z => by cases z)⟩
  | trm _ ih => exact ⟨ih.1, (fun z => by cases z), fun z => by cases z⟩
theorem tt_ok {i k : Nat} {t : Tr} {l : List Str} (h : TT i k t l) : (i = 0 → ∀ rest, St rest → pFac (pAt k) (l ++ rest) = .ok t rest) ∧ (i = 1 → ∀ rest, St rest → pTrm (pAt k) (l ++ rest) = .ok t rest) ∧ (i = 2 → ∀ rest, St rest → ∃ n, rest.length < n ∧ pExp (pAt k) (l ++ rest) = pMore (pAt k) n t rest) := by
  induction h with
  | sum h => exact ⟨fun _ rest hr => sum_ok h hr, (fun z => by cases z), (fun z => by cases z)⟩
  | par h ih =>
    rename_i k t l
    refine ⟨fun _ rest hr => ?_, (fun z => by cases z), (fun z => by cases z)⟩
    obtain ⟨n, hn, e⟩ := ih.2.2 rfl ((")" : Str) :: rest) (by show (")" : Str) ∈ _; decide)
    have em : pMore (pAt k) n t ((")" : Str) :: rest) = .ok t ((")" : Str) :: rest) := by
      cases n with
      | zero => cases hn
      | succ n =>
        unfold pMore
        exact if_neg (by show ¬ ((")" : Str) = "+" ∨ (")" : Str) = "-"); decide)
    unfold pFac
    show (if ("(" : Str) = "sum" then _ else (pEx "(" (("(" : Str) :: ((l ++ [(")" : Str)]) ++ rest))).bind _) = _
    rw [if_neg (by decide), show pEx "(" (("(" : Str) :: ((l ++ [(")" : Str)]) ++ rest)) = .ok () ((l ++ [(")" : Str)]) ++ rest) from if_pos rfl, List.append_assoc]
    show (pExp (pAt k) (l ++ (")" : Str) :: rest)).bind _ = _
    rw [e, em]
    show (pEx ")" ((")" : Str) :: rest)).bind (fun _ l3 => Res.ok t l3) = _
    rw [show pEx ")" ((")" : Str) :: rest) = .ok () rest from if_pos rfl]
    rfl
  | times hn h ih =>
    rename_i k n t l
    refine ⟨(fun z => by cases z), (fun _ rest hr => ?_), (fun z => by cases z)⟩
    obtain ⟨n1, n2, _⟩ := num_ok hn
    unfold pTrm
    show (if numOk (numT n) = true then (pEx "*" (("*" : Str) :: (l ++ rest))).bind (fun _ l1 => (pFac (pAt k) l1).bind fun t l2 => Res.ok (Tr.times (numV (numT n)) t) l2) else _) = _
    rw [if_pos n1, show pEx "*" (("*" : Str) :: (l ++ rest)) = .ok () (l ++ rest) from if_pos rfl]
    show (pFac (pAt k) (l ++ rest)).bind _ = _
    rw [ih.1 rfl rest hr, n2]
    rfl
  | fac h ih =>
    refine ⟨(fun z => by cases z), (fun _ rest hr => ?_), (fun z => by cases z)⟩
    unfold pTrm
    rw [if_neg (by rw [((tt_head h).2.1 rfl rest).1]; decide)]
    exact ih.1 rfl rest hr
  | minus h ih =>
    rename_i k t l
    refine ⟨(fun z => by cases z), (fun z => by cases z), fun _ rest hr => ⟨rest.length + 1, Nat.lt_succ_self _, ?_⟩⟩
    unfold pExp pFst
    show (if ("-" : Str) = "-" then (pTrm (pAt k) (l ++ rest)).bind _ else _).bind _ = _
    rw [if_pos rfl, ih.2.1 rfl rest hr]
    rfl
  | plus h1 h2 ih1 ih2 =>
    rename_i k a b l m
    refine ⟨(fun z => by cases z), (fun z => by cases z), fun _ rest hr => ?_⟩
    obtain ⟨n, hn, e⟩ := ih1.2.2 rfl (("+" : Str) :: (m ++ rest)) (by show ("+" : Str) ∈ _; decide)
    cases n with
    | zero => cases hn
    | succ n =>
      refine ⟨n, by rw [List.length_cons, List.length_append] at hn; omega, ?_⟩
      rw [List.append_assoc]
      show pExp (pAt k) (l ++ ("+" : Str) :: (m ++ rest)) = _
      rw [e]
      conv => lhs; unfold pMore
      show (if ("+" : Str) = "+" ∨ ("+" : Str) = "-" then (pTrm (pAt k) (m ++ rest)).bind (fun u m' => pMore (pAt k) n (if ("+" : Str) = "+" then Tr.plus a u else Tr.less a u) m') else _) = _
      rw [if_pos (.inl rfl), ih2.2.1 rfl rest hr]
      show pMore (pAt k) n (if ("+" : Str) = "+" then .plus a b else .less a b) rest = _
      rw [if_pos rfl]
  | less h1 h2 ih1 ih2 =>
    rename_i k a b l m
    refine ⟨(fun z => by cases z), (fun z => by cases z), fun _ rest hr => ?_⟩
    obtain ⟨n, hn, e⟩ := ih1.2.2 rfl (("-" : Str) :: (m ++ rest)) (by show ("-" : Str) ∈ _; decide)
    cases n with
    | zero => cases hn
    | succ n =>
      refine ⟨n, by rw [List.length_cons, List.length_append] at hn; omega, ?_⟩
      rw [List.append_assoc]
      show pExp (pAt k) (l ++ ("-" : Str) :: (m ++ rest)) = _
      rw [e]
      conv => lhs; unfold pMore
      show (if ("-" : Str) = "+" ∨ ("-" : Str) = "-" then (pTrm (pAt k) (m ++ rest)).bind (fun u m' => pMore (pAt k) n (if ("-" : Str) = "+" then Tr.plus a u else Tr.less a u) m') else _) = _
      rw [if_pos (.inr rfl), ih2.2.1 rfl rest hr]
      show pMore (pAt k) n (if ("-" : Str) = "+" then .plus a b else .less a b) rest = _
      rw [if_neg (by decide)]
  | trm h ih =>
    rename_i k t l
    refine ⟨(fun z => by cases z), (fun z => by cases z), fun _ rest hr => ⟨rest.length + 1, Nat.lt_succ_self _, ?_⟩⟩
    unfold pExp pFst
    rw [if_neg ((tt_head h).2.2 rfl rest), ih.2.1 rfl rest hr]
    rfl
theorem all_ok {t : Tr} {l : List Str} (h : TT 2 10 t l) : pAll l = .ok t [] := by
  obtain ⟨n, hn, e⟩ := (tt_ok h).2.2 rfl [] (by show ("" : Str) ∈ _; decide)
  rw [List.append_nil] at e
  unfold pAll
  rw [e]
  cases n with
  | zero => cases hn
  | succ n =>
    unfold pMore
    rfl
theorem tokS_of {z : Str} {l : List Str} (h : Wk z l) : tokS z = l := by
  obtain ⟨k, e⟩ := h [] []
  rw [List.append_nil] at e
  unfold tokS
  show (tokN [] 0 (TL.tl z)).map _ = l
  rw [e]
  show ([] ++ l.map TL.tl).map _ = l
  rw [List.nil_append, List.map_map]
  conv => rhs; rw [← List.map_id l]
  exact List.map_congr_left fun x _ => TL.mk_tl x
end Pr
end Z

set_option Elab.async false
set_option linter.all false
set_option maxRecDepth 100000
set_option maxHeartbeats 2000000
/-! ZTok: x.replace(y, g + y) in a comprehension behind a written text: texts made at run time have marks of their own. -/
namespace Z
open PySem PySem.Spec PyProof.Rows L2
/-- an expression behind which a mark has been given out -/
def PE1 (X : Cx) (e : Expr) (t : TE) : Prop := ∀ (pins : List (Addr × Obj)) (s : Shared) (σ : L2.St) (H : Hp) (Q : VK), Inv X pins σ H s → t σ H Q → wpAny (model X.prog X.w) X.A (eval e X.env) (fun v s' => 1 ≤ s'.toks ∧ EP X pins σ Q v s') X.xe s
section
variable {X : Cx} {a b e : Expr} {ta tb te : TE} {op : Operator} {r : R2} {p : Pos}
theorem pe1_str {x : Str} {j : Nat} {pos : Pos} : PE1 X (.Constant (.str x) j pos) (tC (.str x)) := fun pins s σ H Q I h => Calls.Constant_str ⟨Nat.le_add_left 1 _, .str x, H, I.tok _, ⟨_, rfl⟩, h⟩
theorem PE1.pe (h : PE1 X e te) : PE X e te := ⟨fun pins s σ H Q I q => wpAny_mono (h pins s σ H Q I q) (fun _ _ z => z.2) fun _ _ z => z⟩
theorem PE1.grow {n : Nat} (h : PE X e te) {pins : List (Addr × Obj)} {s : Shared} {σ : L2.St} {H : Hp} {Q : VK} (I : Inv X pins σ H s) (hn : n ≤ s.toks) (q : te σ H Q) : wpAny (model X.prog X.w) X.A (eval e X.env) (fun v s' => n ≤ s'.toks ∧ EP X pins σ Q v s') X.xe s :=
  wpAny_mono (wpAny_toks_of hn (h.run pins s σ H Q I q)) (fun _ _ z => z) fun _ _ z => z.2
theorem pe1_opR (ho : OpR X (binaryOp op) r) (ha : PE X a ta) (hb : PE1 X b tb) : PE1 X (.BinOp a op b p) (tOp r ta tb) := fun pins s σ H Q I h => by
  refine wpAny_BinOp (thn (ha.run pins s σ H _ I h) fun u s1 ⟨x, H1, I1, r1, q1⟩ => ?_)
  refine wpAny_mono (hb pins s1 σ H1 _ I1 q1) (fun v s2 z => ?_) fun _ _ z => z
  obtain ⟨z1, y, H2, I2, r2, q2⟩ := z
  exact wpAny_mono (wpAny_toks_of z1 (ho pins s2 σ H2 x y u v Q I2 r1 r2 q2)) (fun _ _ w => w) fun _ _ w => w.2
theorem pe1_opL (ho : OpR X (binaryOp op) r) (ha : PE1 X a ta) (hb : PE X b tb) : PE1 X (.BinOp a op b p) (tOp r ta tb) := fun pins s σ H Q I h => by
  refine wpAny_BinOp (wpAny_mono (ha pins s σ H _ I h) (fun u s1 z => ?_) fun _ _ z => z)
  obtain ⟨z0, x, H1, I1, r1, q1⟩ := z
  refine wpAny_mono (PE1.grow hb I1 z0 q1) (fun v s2 z => ?_) fun _ _ z => z
  obtain ⟨z1, y, H2, I2, r2, q2⟩ := z
  exact wpAny_mono (wpAny_toks_of z1 (ho pins s2 σ H2 x y u v Q I2 r1 r2 q2)) (fun _ _ w => w) fun _ _ w => w.2
/-- no reader has booked a mark -/
abbrev NoBook (K : PySem.W.Frag) : Prop := PySem.W.nsIn K cStatics sharingNotToldKey = some none
theorem none_booked {pins : List (Addr × Obj)} {σ : L2.St} {H : Hp} {s : Shared} (I : Inv X pins σ H s) (nb : NoBook X.K) : NoneBooked s.heap :=
  let ⟨mc, hn, _⟩ := I.nolimit
  ⟨mc, hn, PySem.W.ns_none_of I.kIn hn nb⟩
def tReplG (tx tg : TE) (y : Str) : TE := fun σ H Q => tx σ H fun u H1 => ∃ x, u = .str x ∧ tg σ H1 fun v H2 => ∃ g, v = .str g ∧ x.length + (x.length + 1) * (g.length + y.length) ≤ 16777216 ∧ Q (.str (Txt.replace x y (g ++ y))) H2
/-- x.replace(y, g + y) -/
theorem pet_replG {tx tg : TE} {y : Str} {j k : Nat} {c0 c1 q1 apos pos : Pos} (nb : NoBook X.K) (hx : PE X a tx) (hg : PE X b tg) (hy : (y.length == 0) = false := by decide +kernel)
    (hst : starEach [.Constant (.str y) j c0, .BinOp b .Add (.Constant (.str y) k c1) q1] X.env = [(false, eval (.Constant (.str y) j c0) X.env), (false, eval (.BinOp b .Add (.Constant (.str y) k c1) q1) X.env)] := by rfl)
    (hbase : attributeBase a "replace" X.env (eval a X.env) = eval a X.env := by rfl) (hline : (apos.endLine == pos.line) = true := by rfl) :
    PET X (.Call (.Attribute a "replace" apos) [.Constant (.str y) j c0, .BinOp b .Add (.Constant (.str y) k c1) q1] [] pos) (tReplG tx tg y) := by
  intro pins s σ H Q h0 I h
  refine PySem.Call_method2 hbase hst hline (wpAny_mono (PE1.grow hx I h0 h) (fun v s1 w => ?_) fun _ _ z => z)
  obtain ⟨h1, u, H1, I1, r1, x, rfl, w1⟩ := w
  obtain ⟨tx', rfl⟩ := r1
  refine ⟨"str", _, PySem.F.plainAttrs_str, PySem.F.slot_str_replace, PySem.F.type_str_replace, typeIs_str _ _ _, (fun _ e => nomatch e), Calls.callWith_builtin rfl (Calls.evalArgs_plain (Calls.spliced_cons (Calls.Constant_str ?_)))⟩
  have I2 := I1.tok (s1.toks + 1)
  refine Calls.spliced_cons (wpAny_BinOp (wpAny_mono (PE1.grow (n := s1.toks + 1) hg I2 (Nat.le_refl _) w1) (fun v s3 w => ?_) fun _ _ z => z))
  obtain ⟨h3, gv, H3, I3, r3, g, rfl, hl, q⟩ := w
  obtain ⟨tg', rfl⟩ := r3
  refine Calls.Constant_str ?_
  have hz : (g ++ y).length = g.length + y.length := PySem.Str.length_append g y
  -- the sum's mark is another one than the first text's
  have fin : ∀ (t' n : Nat), s1.toks < t' → Inv X pins σ H3 { s3 with toks := n } → wpAny (model X.prog X.w) X.A (spliced []) (fun vs s' => wpAny (model X.prog X.w) X.A (call (.builtin "str.replace") (.str x tx' :: .str y s1.toks :: .str (g ++ y) t' :: vs)) (EP X pins σ Q) X.xe s') X.xe { s3 with toks := n } := fun t' n lt I4 =>
    Calls.spliced_nil (PySem.SC.replaceA (u := s1.toks) (v := t') (show (s1.toks : Nat) ≠ 0 by omega) (show (t' : Nat) ≠ 0 by omega) (show (s1.toks : Nat) ≠ t' by omega) (by rw [hz]; exact hl) (fun t2 k2 => ⟨.str (Txt.replace x y (g ++ y)), H3, I4.tok k2, ⟨t2, rfl⟩, q⟩) (none_booked I4 nb))
  refine PySem.P.add_str ?_
  by_cases e : g.length = 0
  · rw [if_pos (by simpa using e)]
    have eg : g ++ y = y := by
      have e1 : g.cps.toList = [] := List.eq_nil_of_length_eq_zero (by rw [Array.length_toList]; exact e)
      exact TL.ext_tl (by rw [TL.tl_append]; show g.cps.toList ++ TL.tl y = TL.tl y; rw [e1]; rfl)
    have z := fin s3.toks (s3.toks + 1) (by omega) (I3.tok _)
    rw [eg] at z
    exact z
  · rw [if_neg (by simpa using e)]
    rw [if_neg (by rw [hy]; decide)]
    exact ⟨by rw [hz]; have : g.length + y.length ≤ (x.length + 1) * (g.length + y.length) := Nat.le_mul_of_pos_left _ (Nat.succ_pos _); rw [PySem.sizeLine_eq]; omega, fin _ _ (by show s1.toks < s3.toks + 1; omega) (I3.tok _)⟩
/-- sep.join(e), e where a mark has been given out -/
theorem pe_joinT {o : Expr} {to : TE} {apos pos : Pos} (ho : PE1 X o to) (he : PET X e te) (hs : starEach [e] X.env = [(false, eval e X.env)] := by rfl) (hbase : attributeBase o "join" X.env (eval o X.env) = eval o X.env := by rfl) (hline : (apos.endLine == pos.line) = true := by rfl) :
    PE X (.Call (.Attribute o "join" apos) [e] [] pos) (tM1 (rJoin X.K) to te) := by
  constructor
  intro pins s σ H Q I h
  refine PySem.Call_method1 hbase hs hline (wpAny_mono (ho pins s σ H _ I h) (fun v s1 w => ?_) fun _ _ z => z)
  obtain ⟨h1, u, H1, I1, r1, ⟨y, rfl⟩, q⟩ := w
  obtain ⟨ty, rfl⟩ := _root_.id r1
  refine ⟨"str", _, PySem.F.plainAttrs_str, PySem.F.slot_str_join, PySem.F.type_str_join, typeIs_str _ _ _, (fun _ e => nomatch e), Calls.callWith_builtin rfl (Calls.evalArgs_plain (Calls.spliced_cons ?_))⟩
  exact thn (he pins s1 σ H1 _ h1 I1 q) fun v2 s2 ⟨y2, H2, I2, r2, q2⟩ => Calls.spliced_nil (mt_join pins s2 σ H2 _ [y2] _ [v2] Q I2 r1 (.cons r2 .nil) q2)
end
/-! ### a list comprehension whose item wants a mark given out -/
section
variable {M : Model} {A : Around} {α : Type} {tm : Sem α} {F F' : α → Shared → Prop} {E : Value → Shared → Prop} {s : Shared}
theorem onT (h1 : 1 ≤ s.toks) (h : wpAny M A tm F E s) (k : ∀ a s', 1 ≤ s'.toks → F a s' → F' a s') : wpAny M A tm F' E s :=
  wpAny_mono (wpAny_toks_of h1 h) (fun a s' z => k a s' z.1 z.2) fun _ _ z => z.2
theorem onT0 (h1 : 1 ≤ s.toks) (h : wpAny M A tm F (fun _ _ => False) s) (k : ∀ a s', 1 ≤ s'.toks → F a s' → F' a s') : wpAny M A tm F' E s :=
  wpAny_mono (wpAny_toks_of h1 h) (fun a s' z => k a s' z.1 z.2) fun _ _ z => z.2.elim
end
section
variable {X : Cx}
theorem pet_lc {elt tg iter : Expr} {scope : Scope} {own : List (Str × Nat)} {pos : Pos} {wi : TI} {g : TG} {te : TE} (hc : X.calm = true) (hN : X.N.Nodup) (hi : PI X tg iter wi) (bk : BlkOk X.N X.env.scope scope own)
    (hg : ∀ (s : Shared) (H : Hp) (C : Addr) (cl : List (Str × Addr)) (fp : List Addr), PG (X.blk s H scope (compEnvC scope cl C X.env) fp) tg g)
    (he : ∀ (s : Shared) (H : Hp) (C : Addr) (cl : List (Str × Addr)) (fp : List Addr), PET (X.blk s H scope (compEnvC scope cl C X.env) fp) elt te) (hs : ∀ x, foldedSetIterable iter X.env x = pure x := by intro _; rfl) :
    PET X (.ListComp elt [⟨tg, iter, [], 0⟩] scope pos) (tLc wi g tYes te (own.map (·.2))) := by
  intro pins s σ H Q h1 I h
  rw [eval_ListComp]
  have clo : ∀ y ∈ scope.names, y.2 = .free → ∃ c, X.env.cells.lookup y.1 = some c := fun y hy e => (bk.free y hy e).elim (fun k => I.ok.has _ (.inl k)) fun k => I.ok.has _ (.inr k)
  refine wpAny_comprehension_free rfl hs (closure_ok clo) bk.kind (fun y hy e => (bk.uniq y hy).trans (congrArg some e)) (onT h1 (hi.run pins s σ H _ I h) fun xv s1 t1 hx => onT t1 hx fun itv s2 t2 h2 => ?_)
  obtain ⟨it, fp, tn, J, H2, rfl, I2, T, st2, f2, q⟩ := h2
  refine wpAny_newObj_type (newEnv_comp ?_) (Nat.zero_le _)
  have hDn : H2 s2.heap.objs.size = none := I2.hok.fresh (Nat.le_refl _)
  obtain ⟨W, ⟨m0, w0⟩, turn⟩ := q _ hDn
  generalize eD : s2.heap.objs.size = D at hDn w0 turn ⊢
  generalize e3 : ({ s2 with heap := s2.heap.push { cls := .type "list", data := .seq ([] : List Value).toArray } } : Shared) = s3
  have p3 : s3.heap = s2.heap.push { cls := .type "list", data := .seq ([] : List Value).toArray } := by subst e3; rfl
  have t3 : 1 ≤ s3.toks := by subst e3; exact t2
  have I3 : Inv X pins σ (upd H2 D (.lst [])) s3 := by
    subst e3
    exact I2.laid (t' := s2.toks) (fun b o e => Heap.get?_push_of_some _ e) (Nat.le_of_eq eD) ⟨Nat.zero_le _, [], 0, .nil, by subst eD; exact Heap.get?_push_size _ rfl⟩
  have below : ∀ b ∈ fp, b < s2.heap.objs.size := fun b hb => let ⟨o, e, _⟩ := T.obj _ _ st2 b hb; Heap.lt_size e
  have f3 : ∀ b ∈ fp, FpOk X pins (upd H2 D (.lst [])) b ∧ b < s3.heap.objs.size := fun b hb => by
    have hb2 := below b hb
    have nb : b ≠ D := by rw [← eD]; exact Nat.ne_of_lt hb2
    refine ⟨⟨by rw [upd_ne nb]; exact (f2 b hb).1, (f2 b hb).2⟩, ?_⟩
    rw [p3, Heap.size_push]
    exact Nat.lt_succ_of_lt hb2
  have I4 := block_start I3 bk hN f3
  have pg := hg s3 (upd H2 D (.lst [])) s3.heap.objs.size (cellsFrom (s3.heap.objs.size + 1) scope.names (cloFrom X.env.cells scope.names [])) fp
  have pe := he s3 (upd H2 D (.lst [])) s3.heap.objs.size (cellsFrom (s3.heap.objs.size + 1) scope.names (cloFrom X.env.cells scope.names [])) fp
  have nfp : ∀ b ∈ fp, (upd H2 D (.lst [])) b = none := fun b hb => (f3 b hb).1.1
  generalize ece : compEnvC scope (cellsFrom (s3.heap.objs.size + 1) scope.names (cloFrom X.env.cells scope.names [])) s3.heap.objs.size X.env = ce at I4 pg pe
  have cL : ce.locals = s3.heap.objs.size := by subst ece; rfl
  generalize eH3 : upd H2 D (.lst []) = H3 at I3 I4 pg pe w0 nfp f3
  generalize e4 : ({ s3 with heap := pushCells (s3.heap.push { cls := .type "dict", data := .dict #[] }) scope.names } : Shared) = s4 at I4
  have t4 : 1 ≤ s4.toks := by subst e4; exact t3
  have st3 : tn 0 s3.heap := T.keep _ _ _ st2 fun b _ o e => by rw [p3]; exact Heap.get?_push_of_some _ e
  have st4 : tn 0 s4.heap := T.keep _ _ _ st3 fun b _ o e => by subst e4; exact pushCells_keeps _ _ _ _ (Heap.get?_push_of_some _ e)
  have stat : ∀ {σ' : L2.St} {H' : Hp} {s' : Shared}, Inv (X.blk s3 H3 scope ce fp) [] σ' H' s' → (∀ b ∈ fp, H' b = none) → ∀ b ∈ fp, FpOk (X.blk s3 H3 scope ce fp) [] H' b := fun {σ' H' s'} J' hn b hb =>
    ⟨hn b hb, (J'.ok.exf b hb).1, J'.ok.exfs b hb, .inl hb, fun x c e => (J'.ok.exf b hb).2 x c e, fun p hp => by cases (show p ∈ ([] : List (Addr × Obj)) from hp)⟩
  have loop : codeAny (model X.prog X.w) X.A (.compLoop (.ListComp elt [⟨tg, iter, [], 0⟩] scope pos) 0 (.ref it) (.ref D) ce) (compPost (model X.prog X.w) X.A X.xe none (fun v s' => EP X pins σ Q v s') (.ref D) s3.heap.objs.size) s4 := by
    refine compLoop_any (fun n s' => 1 ≤ s'.toks ∧ ∃ i H', Inv (X.blk s3 H3 scope ce fp) [] (wipe σ (own.map (·.2))) H' s' ∧ tn i s'.heap ∧ (∀ b ∈ fp, H' b = none) ∧ W i n H') ?_ m0 ⟨t4, 0, H3, I4, st4, nfp, w0⟩
    rintro n s5 ⟨t5, i, H5, I5, st5, n5, w5⟩
    rcases turn i n H5 w5 with ⟨stop, qq⟩ | ⟨go, Nx, hNx, step⟩
    · refine onT0 t5 (T.done (X.blk s3 H3 scope ce fp) rfl rfl rfl hc i [] s5 _ H5 (fun _ _ => False) I5 (stat I5 n5) st5 stop) fun r s6 t6 ⟨hr, I6⟩ => ?_
      subst hr
      have I7 : Inv X pins σ H5 s6 := I3.call' (ch := fp) I6.os I6.base I6.hok I6.bare fun b hb => let z := (f3 b hb).1.2; ⟨z.2.2.1, z.1, z.2.2.2.1, z.2.2.2.2⟩
      have nC : H5 s3.heap.objs.size = none := by have z : H5 ce.locals = none := I6.free; rwa [cL] at z
      obtain ⟨m, hm, _⟩ := I6.loc
      have hm : s6.heap.Ns ce.locals m := hm
      rw [cL] at hm
      obtain ⟨a0, a1, a2, a3, a4, a5⟩ := I3.fpOk (Nat.le_refl _) nC
      exact ⟨m, hm, fun h9 sb => ⟨.ref D, H5, I7.turned (t' := s6.toks) (fun b o hb e => (sb.2 b hb).trans e) a0 a1 a3 a4 a5, rfl, qq⟩⟩
    · refine onT0 t5 (T.item (X.blk s3 H3 scope ce fp) rfl rfl rfl hc i [] s5 _ H5 (fun _ _ => False) I5 (stat I5 n5) st5 go) fun r s6 t6 ⟨u, hr, h6⟩ => ?_
      subst hr
      refine onT0 t6 h6 fun _ s7 t7 ⟨x, H7, I7, r7, y7, st7, n7⟩ => ?_
      refine onT0 t7 (pg.run _ s7 _ H7 x u _ (I7.pinned (stat I7 n7) (T.obj _ _ st7)) r7 (step x H7 y7)) fun _ s8 t8 ⟨σ8, H8, I8, hw8, q8⟩ => ?_
      refine wpAny_tests_nil ?_
      show wpAny _ _ (eval elt ce) _ _ s8
      have q8 : te σ8 H8 fun y H4 => ∃ acc, H4 D = some (.lst acc) ∧ acc.length < sizeLine ∧ Nx (upd H4 D (.lst (acc ++ [y]))) := q8
      refine onT0 t8 (pe _ s8 σ8 H8 _ t8 I8 q8) fun z s10 t10 ⟨yv, H10, I10, r10, acc, hD10, hz10, nx⟩ => ?_
      refine onT t10 (app_ok (X := X.blk s3 H3 scope ce fp) (Q := fun _ s' => ∃ H', Inv (X.blk s3 H3 scope ce fp) ([] ++ pinsAt fp s7.heap) σ8 H' s' ∧ Nx H') I10 hD10 hz10 r10 fun s11 I11 => ⟨_, I11, nx⟩) fun _ s11 t11 ⟨H', J', nx⟩ => ?_
      obtain ⟨m', hm, w'⟩ := hNx H' nx
      have kept : ∀ b ∈ fp, ∀ o, s7.heap.get? b = some o → s11.heap.get? b = some o ∧ H' b = none := fun b hb o e => let z := J'.pin (b, o) (List.mem_append_right _ (List.mem_append_right _ (mem_pinsAt hb e))); ⟨z.1, z.2.1⟩
      refine ⟨m', hm, t11, i + 1, H', (J'.unpinned (pins := [])).weak (by rw [← hw8, wipe_length]) (fun j v e => ?_), T.keep _ _ _ st7 fun b hb o e => (kept b hb o e).1, fun b hb => ?_, w'⟩
      · rw [← hw8] at e
        exact (wipe_some e).1
      · obtain ⟨o, e, _⟩ := T.obj _ _ st7 b hb
        exact (kept b hb o e).2
  subst ece e4
  exact codeAny_compStart_list loop (T.self X.A 0 _ _ _ st4 loop)
end
end Z

set_option Elab.async false
set_option linter.all false
set_option maxRecDepth 100000
set_option maxHeartbeats 2000000
/-! ZOwn: a list comprehension over a list that the frame alone changes. -/
namespace Z
open PySem PySem.Spec PyProof.Rows L2
open Evl (Ex Ex.refl Ex.trans Ex.new ex_rd ex_l ex_t sq_of st_of fresh_back sz_of sz_lt)
section
variable {K : PySem.W.Frag} {ρ : Rho} {te : TE} {ds : List D}
theorem en_lcO {i0 j : Nat} (f : D → D) (h : ρ[i0]? = some (.own ds)) (hj : ρ[j]? = some .no) (he : ∀ d ∈ ds, EvZ K te (ρ.set j (.fr d)) (ρ.set j (.fr d)) (f d)) (hl : ds.length ≤ 99999) : EvN K (tLc (iList K (tVar i0)) (gName j) tYes te [j]) ρ ρ (ds.map f) := fun M G1 H1 σ S Q q => by
  have ne : i0 ≠ j := fun z => by subst z; rw [h] at hj; cases hj
  obtain ⟨p, vs, ep, mp, gp, hp, dz⟩ := S.own h
  have wr : wipeR ρ [j] = ρ := by
    show ρ.set j .no = ρ
    obtain ⟨hlt, e⟩ := List.getElem?_eq_some_iff.mp hj
    rw [← e]
    exact List.set_getElem_self hlt
  have S' : Sim K M G1 H1 (L2.wipe σ [j]) ρ := by
    have z := S.wipe (σ' := L2.wipe σ [j]) (vs := [j]) (wipe_length σ [j]) fun i h => wipe_get h
    rwa [wr] at z
  refine ⟨.ref p, ep, p, rfl, ⟨vs, sq_of hp⟩, fun D hD => ?_⟩
  have pD : p ≠ D := ne_of_none hp hD
  refine ⟨fun i m Hh => i ≤ ds.length ∧ m = ds.length - i ∧ ∃ G vd, Grow (fun a => M a ∨ a = D) G1 H1 G Hh ∧ Sim K (fun a => M a ∧ a ≠ D) G Hh (L2.wipe σ [j]) ρ ∧ G D = none ∧ Hh D = some (.lst vd) ∧ Dzs K G vd ((ds.take i).map f), ⟨ds.length, Nat.zero_le _, rfl, G1, [], .newO hD, ?_, fresh_back S.sub hD, upd_same, .nil⟩, ?_⟩
  · exact (S'.newO hD).chMo fun p2 es i e1 e2 => by
      obtain ⟨p', us, e', m, gp', hp', dz'⟩ := S'.mu e1
      rw [e2] at e'
      cases e'
      exact ⟨m, fun z => by subst z; rw [hD] at hp'; cases hp'⟩
  · rintro i m Hi ⟨hle, rfl, Gi, vd, gi, si, gD, hiD, dD⟩
    have gg : ∀ {Gx Hx : Hp}, Grow (fun a => M a ∨ a = D) G1 H1 Gx Hx → Grow M G1 H1 Gx Hx := fun g => g.wk fun a e z => by
      rcases z with z | z
      · exact z
      · subst z; exact absurd hD e
    obtain ⟨p2, vs2, ep2, mp2, gp2, hp2, dz2⟩ := si.own h
    rw [wipe_get (by simpa using ne), ep] at ep2
    cases ep2
    by_cases hlt : i < ds.length
    · have hit : ds[i]? = some ds[i] := List.getElem?_eq_getElem hlt
      obtain ⟨v, ev, dv⟩ := dz2.get hit
      refine .inr ⟨⟨vs2, v, sq_of hp2, ev⟩, fun Hh => ∃ G vd, Grow (fun a => M a ∨ a = D) G1 H1 G Hh ∧ Sim K (fun a => M a ∧ a ≠ D) G Hh (L2.wipe σ [j]) ρ ∧ G D = none ∧ Hh D = some (.lst vd) ∧ Dzs K G vd ((ds.take (i + 1)).map f), fun H' w => ⟨ds.length - (i + 1), by omega, by omega, rfl, w⟩, fun x H' yl => ?_⟩
      obtain ⟨rfl, e2⟩ := yl
      have ex := e2 vs2 (sq_of hp2)
      rw [ev] at ex
      cases ex
      refine tg_name (i := j) _ Gi H' _ v si dv _ fun σa la ka Sa => ⟨?_, ?_⟩
      · exact (wipe_eq (σ := L2.wipe σ [j]) (vs := [j]) la fun k hk => ka k hk).trans (wipe_eq (wipe_length σ [j]) fun k hk => wipe_get hk)
      · show te σa H' _
        refine he _ (List.getElem_mem hlt) _ Gi H' _ Sa _ fun u G4 H4 g4 s4 du => ?_
        have hD4 : H4 D = some (.lst vd) := g4.k D _ (fun z => z.2 rfl) hiD
        have gD4 : G4 D = none := g4.n D (fun z => z.2 rfl) (by rw [hiD]; simp) gD
        have dd : Dzs K G4 (vd ++ [u]) ((ds.take i).map f ++ [f ds[i]]) := (dD.mono g4.g).snoc du
        have s5 := s4.other (o := .lst (vd ++ [u])) gD4 (s4.nin fun z => z.2 rfl)
        have ga : Grow (fun a => M a ∨ a = D) G1 H1 G4 H4 := gi.trans (g4.wk fun a _ z => .inl z.1)
        have lt := dD.len
        rw [List.length_map, List.length_take] at lt
        refine ⟨vd, hD4, sz_lt (by omega), G4, vd ++ [u], ⟨ga.g, fun a o m e => ?_, ga.n, fun a e => ga.d a (upd_none e)⟩, ?_, gD4, upd_same, ?_⟩
        · rw [upd_ne fun z => m (.inr z)]
          exact ga.k a o m e
        · have z := s5.wipe (σ' := L2.wipe σ [j]) (vs := [j]) (by rw [la]) fun k hk => (ka k hk).symm
          have w2 : wipeR (ρ.set j (.fr ds[i])) [j] = ρ := by
            show (ρ.set j (.fr ds[i])).set j .no = ρ
            rw [List.set_set]
            exact wr
          rwa [w2] at z
        · rw [List.take_succ_eq_append_getElem hlt, List.map_append]
          exact dd
    · have ei : i = ds.length := by omega
      subst ei
      refine .inl ⟨⟨vs2, sq_of hp2, Nat.le_of_eq dz2.len⟩, ?_⟩
      rw [List.take_length] at dD
      exact q D vd Gi Hi (gg gi) (sim_unwipe (si.chM fun a _ z => z.1)) hD gD hiD dD
end
end Z

set_option Elab.async false
set_option linter.all false
set_option maxRecDepth 100000
set_option maxHeartbeats 2000000
/-! LawTy: trees and their texts as the law draws them. -/
namespace Z
open PySem PySem.Spec PyProof.Rows L2
open Evl (Ex Ex.refl Ex.trans Ex.new ex_rd ex_l ex_t sq_of st_of fresh_back sz_of sz_lt)
namespace Pr
def t__law_gap (K : PySem.W.Frag) (R__law_draw : Rel) : TS :=
  (tRet (tSl rSlS (tC (.str "   ")) tNoPart (tPart (tCall (SpZ K R__law_draw) [] E0 (tCons (tVar 0) (tCons (tC (.int 4)) tNil))))))

def b__law_a_condition_1 (K : PySem.W.Frag) (R__law_draw : Rel) (R__law_level : Rel) (R__law_prefix : Rel) : TS :=
  (tSeq (tAsg (tOp (rIx K) (tOp (rIx K) (tVar 2) (tC (.int 1))) (tCall (SpZ K R__law_draw) [] E0 (tCons (tVar 0) (tCons (tCB (rLenX K) (tCons (tOp (rIx K) (tVar 2) (tC (.int 1))) tNil)) tNil)))) (gName 5))
      (tDrop (tBM K "list" rAppend (tVar 3) (tCons (tCall (SpZ K R__law_prefix) [] E0 (tCons (tVar 5) (tCons (tOp rAddI (tC (.int 1)) (tCall (SpZ K R__law_draw) [] E0 (tCons (tVar 0) (tCons (tCall (SpZ K R__law_level) [] E0 (tCons (tVar 5) tNil)) tNil)))) tNil))) tNil))))
def t__law_a_condition (K : PySem.W.Frag) (R__law_draw : Rel) (R__law_level : Rel) (R__law_prefix : Rel) : TS :=
  (tSeq (tAsg (tOp (rIx K) (tVar 1) (tCall (SpZ K R__law_draw) [] E0 (tCons (tVar 0) (tCons (tCB (rLenX K) (tCons (tVar 1) tNil)) tNil)))) (gName 2))
      (tSeq (tAsg (tLst tNil) (gName 3))
      (tSeq (tFor (iRng1 (tCons (tOp rAddI (tC (.int 1)) (tCall (SpZ K R__law_draw) [] E0 (tCons (tVar 0) (tCons (tC (.int 3)) tNil)))) tNil)) (gName 4) (b__law_a_condition_1 K R__law_draw R__law_level R__law_prefix))
      (tRet (tTup (tCons (tOp (rIx K) (tVar 2) (tC (.int 0))) (tCons (tCB (rTupOf K) (tCons (tVar 3) tNil)) tNil)))))))

def e__law_tree_1 (K : PySem.W.Frag) (R__law_a_condition : Rel) (R__law_draw : Rel) (R__law_tree : Rel) : TE :=
  (tOp (rIx K) (tVar 8) (tC (.int 0)))
def b__law_tree_2 (K : PySem.W.Frag) (R__law_a_condition : Rel) (R__law_draw : Rel) (R__law_tree : Rel) : TS :=
  (tSeq (tAsg (tCall (SpZ K R__law_a_condition) [] E0 (tCons (tVar 0) (tCons (tVar 1) tNil))) (gName 6))
      (tIfS (tTest (tOp (rIn K true) (tOp (rIx K) (tVar 6) (tC (.int 0))) (tLc (iList K (tVar 4)) (gName 8) tYes (e__law_tree_1 K R__law_a_condition R__law_draw R__law_tree) [8]))) (tDrop (tBM K "list" rAppend (tVar 4) (tCons (tVar 6) tNil))) tNext))
def t__law_tree (K : PySem.W.Frag) (R__law_a_condition : Rel) (R__law_draw : Rel) (R__law_tree : Rel) : TS :=
  (tSeq (tAsg (tCall (SpZ K R__law_draw) [] E0 (tCons (tVar 0) (tCons (tC (.int 7)) tNil))) (gName 3))
      (tSeq (tIfS (tOr (tTest (tOp rLeI (tVar 2) (tC (.int 0)))) (tTest (tOp rLtI (tVar 3) (tC (.int 2))))) (tSeq (tAsg (tLst tNil) (gName 4))
      (tSeq (tFor (iRng1 (tCons (tCall (SpZ K R__law_draw) [] E0 (tCons (tVar 0) (tCons (tC (.int 4)) tNil))) tNil)) (gName 5) (b__law_tree_2 K R__law_a_condition R__law_draw R__law_tree))
      (tRet (tTup (tCons (tC (.str "sum")) (tCons (tCB (rTupOf K) (tCons (tVar 4) tNil)) tNil)))))) tNext)
      (tSeq (tIfS (tTest (tOp rEq (tVar 3) (tC (.int 2)))) (tRet (tTup (tCons (tC (.str "times")) (tCons (tOp (rIx K) (tTup (tCons (tCall (SpZ K R__law_draw) [] E0 (tCons (tVar 0) (tCons (tC (.int 4)) tNil))) (tCons (tCall (SpZ K R__law_draw) [] E0 (tCons (tVar 0) (tCons (tC (.int 40)) tNil))) (tCons (tCall (SpZ K R__law_draw) [] E0 (tCons (tVar 0) (tCons (tC (.int 1001)) tNil))) tNil)))) (tCall (SpZ K R__law_draw) [] E0 (tCons (tVar 0) (tCons (tC (.int 3)) tNil)))) (tCons (tCall (SpZ K R__law_tree) [] E0 (tCons (tVar 0) (tCons (tVar 1) (tCons (tOp rSubI (tVar 2) (tC (.int 1))) tNil)))) tNil))))) tNext)
      (tSeq (tIfS (tTest (tOp rEq (tVar 3) (tC (.int 3)))) (tRet (tTup (tCons (tC (.str "minus")) (tCons (tCall (SpZ K R__law_tree) [] E0 (tCons (tVar 0) (tCons (tVar 1) (tCons (tOp rSubI (tVar 2) (tC (.int 1))) tNil)))) tNil)))) tNext)
      (tSeq (tAsg (tCall (SpZ K R__law_tree) [] E0 (tCons (tVar 0) (tCons (tVar 1) (tCons (tOp rSubI (tVar 2) (tC (.int 1))) tNil)))) (gName 7))
      (tRet (tTup (tCons (tIf (tTest (tOp rLtI (tVar 3) (tC (.int 6)))) (tC (.str "plus")) (tC (.str "less"))) (tCons (tVar 7) (tCons (tCall (SpZ K R__law_tree) [] E0 (tCons (tVar 0) (tCons (tVar 1) (tCons (tOp rSubI (tVar 2) (tC (.int 1))) tNil)))) tNil))))))))))

def e__law_conditions_text_1 (K : PySem.W.Frag) (R__law_gap : Rel) : TE :=
  (tReplG (tVar 5) (tVar 4) "/")
def b__law_conditions_text_2 (K : PySem.W.Frag) (R__law_gap : Rel) : TS :=
  (tSeq (tAsg (tCall (SpZ K R__law_gap) [] E0 (tCons (tVar 0) tNil)) (gName 4))
      (tDrop (tBM K "list" rAppend (tVar 2) (tCons (tOp rCatS (tOp rCatS (tOp (rIx K) (tVar 3) (tC (.int 0))) (tC (.str " in "))) (tM1 (rJoin K) (tOp rCatS (tOp rCatS (tVar 4) (tC (.str ","))) (tVar 4)) (tLc (iTup K (tOp (rIx K) (tVar 3) (tC (.int 1)))) (gName 5) tYes (e__law_conditions_text_1 K R__law_gap) [5]))) tNil))))
def t__law_conditions_text (K : PySem.W.Frag) (R__law_gap : Rel) : TS :=
  (tSeq (tAsg (tLst tNil) (gName 2))
      (tSeq (tFor (iTup K (tVar 1)) (gName 3) (b__law_conditions_text_2 K R__law_gap))
      (tRet (tOp rCatS (tC (.str " where ")) (tM1 (rJoin K) (tC (.str " and ")) (tVar 2))))))

def t__law_factor_text (K : PySem.W.Frag) (R__law_conditions_text : Rel) (R__law_draw : Rel) (R__law_gap : Rel) (R__law_tree_text : Rel) : TS :=
  (tSeq (tIfS (tAnd (tTest (tOp rEq (tOp (rIx K) (tVar 1) (tC (.int 0))) (tC (.str "sum")))) (tTest (tOp rGtI (tCall (SpZ K R__law_draw) [] E0 (tCons (tVar 0) (tCons (tC (.int 6)) tNil))) (tC (.int 0))))) (tRet (tOp rCatS (tC (.str "sum")) (tIf (tTest (tOp rGtI (tCB (rLenX K) (tCons (tOp (rIx K) (tVar 1) (tC (.int 1))) tNil)) (tC (.int 0)))) (tCall (SpZ K R__law_conditions_text) [] E0 (tCons (tVar 0) (tCons (tOp (rIx K) (tVar 1) (tC (.int 1))) tNil))) (tC (.str ""))))) tNext)
      (tSeq (tIfS (tTest (tOp rEq (tOp (rIx K) (tVar 1) (tC (.int 0))) (tC (.str "sum")))) (tRet (tOp rCatS (tOp rCatS (tOp rCatS (tC (.str "(sum")) (tIf (tTest (tOp rGtI (tCB (rLenX K) (tCons (tOp (rIx K) (tVar 1) (tC (.int 1))) tNil)) (tC (.int 0)))) (tCall (SpZ K R__law_conditions_text) [] E0 (tCons (tVar 0) (tCons (tOp (rIx K) (tVar 1) (tC (.int 1))) tNil))) (tC (.str "")))) (tCall (SpZ K R__law_gap) [] E0 (tCons (tVar 0) tNil))) (tC (.str ")")))) tNext)
      (tRet (tOp rCatS (tOp rCatS (tOp rCatS (tC (.str "(")) (tCall (SpZ K R__law_gap) [] E0 (tCons (tVar 0) tNil))) (tCall (SpZ K R__law_tree_text) [] E0 (tCons (tVar 0) (tCons (tVar 1) tNil)))) (tC (.str ")"))))))

def t__law_term_text (K : PySem.W.Frag) (R__law_factor_text : Rel) (R__law_gap : Rel) : TS :=
  (tSeq (tIfS (tTest (tOp rEq (tOp (rIx K) (tVar 1) (tC (.int 0))) (tC (.str "times")))) (tRet (tOp rCatS (tOp rCatS (tOp rCatS (tOp rCatS (tCB rStrI (tCons (tOp (rIx K) (tVar 1) (tC (.int 1))) tNil)) (tCall (SpZ K R__law_gap) [] E0 (tCons (tVar 0) tNil))) (tC (.str "*"))) (tCall (SpZ K R__law_gap) [] E0 (tCons (tVar 0) tNil))) (tCall (SpZ K R__law_factor_text) [] E0 (tCons (tVar 0) (tCons (tOp (rIx K) (tVar 1) (tC (.int 2))) tNil))))) tNext)
      (tRet (tCall (SpZ K R__law_factor_text) [] E0 (tCons (tVar 0) (tCons (tVar 1) tNil)))))

def t__law_tree_text (K : PySem.W.Frag) (R__law_gap : Rel) (R__law_term_text : Rel) (R__law_tree_text : Rel) : TS :=
  (tSeq (tIfS (tOr (tTest (tOp rEq (tOp (rIx K) (tVar 1) (tC (.int 0))) (tC (.str "plus")))) (tTest (tOp rEq (tOp (rIx K) (tVar 1) (tC (.int 0))) (tC (.str "less"))))) (tSeq (tAsg (tIf (tTest (tOp rEq (tOp (rIx K) (tVar 1) (tC (.int 0))) (tC (.str "plus")))) (tC (.str "+")) (tC (.str "-"))) (gName 2))
      (tRet (tOp rCatS (tOp rCatS (tOp rCatS (tOp rCatS (tCall (SpZ K R__law_tree_text) [] E0 (tCons (tVar 0) (tCons (tOp (rIx K) (tVar 1) (tC (.int 1))) tNil))) (tCall (SpZ K R__law_gap) [] E0 (tCons (tVar 0) tNil))) (tVar 2)) (tCall (SpZ K R__law_gap) [] E0 (tCons (tVar 0) tNil))) (tCall (SpZ K R__law_term_text) [] E0 (tCons (tVar 0) (tCons (tOp (rIx K) (tVar 1) (tC (.int 2))) tNil)))))) tNext)
      (tSeq (tIfS (tTest (tOp rEq (tOp (rIx K) (tVar 1) (tC (.int 0))) (tC (.str "minus")))) (tRet (tOp rCatS (tOp rCatS (tC (.str "-")) (tCall (SpZ K R__law_gap) [] E0 (tCons (tVar 0) tNil))) (tCall (SpZ K R__law_term_text) [] E0 (tCons (tVar 0) (tCons (tOp (rIx K) (tVar 1) (tC (.int 1))) tNil))))) tNext)
      (tRet (tCall (SpZ K R__law_term_text) [] E0 (tCons (tVar 0) (tCons (tVar 1) tNil))))))

section
variable {K : PySem.W.Frag} {ρ : Rho}
def CGap (R : Rel) : Prop := ∀ b : List D, GoodBox b → ∃ (g : Str) (b' : List D), GoodBox b' ∧ Blank g ∧ R [.own b] (.fr (.str g)) [.own b']
theorem rel_gap {Rd : Rel} (hd : Spec Rd PreDraw PostDraw) : CGap (RelOf K [0] (t__law_gap K Rd) 1 1) := fun b hb => by
  obtain ⟨v, b1, h0, h1, hb1, he⟩ := ev_draw (K := K) hd (i := 0) (ρ := [.own b]) rfl (ev_int (i := 4)) rfl hb (by decide)
  refine ⟨cutS "   " none (some v), b1, hb1, ?_, rfl, _, .inl (ex_ret (ev_slS ev_str poz_none (poz_some he) (by decide))), fin_box (ds := []) (by decide) rfl⟩
  have : v = 0 ∨ v = 1 ∨ v = 2 ∨ v = 3 := by omega
  rcases this with rfl | rfl | rfl | rfl <;> exact ⟨by decide, by decide⟩
theorem ev_gap {R : Rel} (h : CGap R) {b : List D} (hb : GoodBox b) (h0 : ρ[0]? = some (.own b)) : ∃ (g : Str) (b1 : List D), GoodBox b1 ∧ Blank g ∧ EvZ K (tCall (SpZ K R) [] E0 (tCons (tVar 0) tNil)) ρ (ρ.set 0 (.own b1)) (.str g) := by
  obtain ⟨g, b1, h1, h2, h3⟩ := h b hb
  exact ⟨g, b1, h1, h2, ev_callB (ds := []) h0 ag_nil h0 h3⟩
theorem pick_i {α : Type} (f : α → D) {xs : List α} {v : Int} (h0 : 0 ≤ v) (h1 : v < (xs.length : Int)) : ∃ x, atI (xs.map f) v = some (f x) ∧ x ∈ xs := by
  have lt : v.toNat < xs.length := by omega
  refine ⟨xs[v.toNat], ?_, List.getElem_mem lt⟩
  have z := at_nat (ds := xs.map f) (j := v.toNat) (d := f xs[v.toNat]) (by rw [List.getElem?_map, List.getElem?_eq_getElem lt]; rfl)
  rwa [Int.toNat_of_nonneg h0] at z
/-! ### conditions -/
def PathOf (d : Dm) (p : List Str) : Prop := ∃ ws ∈ d.leaves, ∃ n, 1 ≤ n ∧ n ≤ ws.length ∧ p = ws.take n
def CdOk (ds : List Dm) (c : Cd) : Prop := ∃ d ∈ ds, c.1 = d.name ∧ c.2 ≠ [] ∧ c.2.length ≤ 3 ∧ ∀ p ∈ c.2, PathOf d p
theorem psD_snoc (ps : List (List Str)) (p : List Str) : psD ps ++ [.str (pathS p)] = psD (ps ++ [p]) := by
  unfold psD
  rw [List.map_append, List.map_append]
  rfl
theorem co_loop {Rd Rv Rx : Rel} (hd : Spec Rd PreDraw PostDraw) (hv : CLevel Rv) (hp : CPrefix Rx) {d : Dm} {n0 : Nat} (gd : d.Good n0) {c1 : Cell} : ∀ (n m : Nat) (ps : List (List Str)) (b : List D) (c4 c5 : Cell), GoodBox b → (∀ p ∈ ps, PathOf d p) → ps.length + n ≤ 3 →
    ∃ (qs : List (List Str)) (b' : List D) (c4' c5' : Cell), GoodBox b' ∧ (∀ p ∈ qs, PathOf d p) ∧ qs.length = ps.length + n ∧ LoopZ K [0] (gName 4) (b__law_a_condition_1 K Rd Rv Rx) [4] (rangeD (m : Int) n) [.own b, c1, .fr d.d, .own (psD ps), c4, c5] (.nx [.own b', c1, .fr d.d, .own (psD qs), c4', c5'])
  | 0, m, ps, b, c4, c5, hb, hp', _ => ⟨ps, b, c4, c5, hb, hp', rfl, .nil⟩
  | n + 1, m, ps, b, c4, c5, hb, hp', hl => by
    rw [rangeD_cons]
    have tup : ∀ {b : List D} {c4 c5 : Cell} {r : Cell}, EvZ K (tOp (rIx K) (tVar 2) (tC (.int 1))) [.own b, c1, .fr d.d, r, c4, c5] [.own b, c1, .fr d.d, r, c4, c5] d.tupD := fun {b c4 c5 r} => ev_ixT (i := 1) (ds := [.str d.name, d.tupD]) (ev_var (i := 2) rfl) ev_int (at_nat (j := 1) rfl)
    have e0 : d.paths.map D.str = d.leaves.map fun ws => D.str (pathS ws) := by unfold Dm.paths; rw [List.map_map]; rfl
    have few := gd.few
    have most := gd.most
    obtain ⟨v, b1, h0, h1, hb1, he⟩ := ev_draw (K := K) hd (i := 0) (ρ := [.own b, c1, .fr d.d, .own (psD ps), .fr (.int (m : Int)), c5]) rfl (ev_lenT (ds := d.paths.map .str) (EvZ.rd tup)) rfl hb (by rw [e0, List.length_map]; omega)
    rw [e0, List.length_map] at h1
    obtain ⟨ws, hx, mx⟩ := pick_i (fun ws => D.str (pathS ws)) h0 h1
    have g1 := gd.words ws mx
    have g2 := gd.depth ws mx
    have n1 := gd.n1
    have n3 := gd.n3
    have s1 : ExZ K [0] (tAsg (tOp (rIx K) (tOp (rIx K) (tVar 2) (tC (.int 1))) (tCall (SpZ K Rd) [] E0 (tCons (tVar 0) (tCons (tCB (rLenX K) (tCons (tOp (rIx K) (tVar 2) (tC (.int 1))) tNil)) tNil)))) (gName 5)) [.own b, c1, .fr d.d, .own (psD ps), .fr (.int (m : Int)), c5] (.nx [.own b1, c1, .fr d.d, .own (psD ps), .fr (.int (m : Int)), .fr (.str (pathS ws))]) :=
      ex_set (i := 5) (ev_ixT (ds := d.paths.map .str) tup he (by rw [e0]; exact hx)) (by decide)
    have hlv := hv ws g1 (by omega) (by omega)
    obtain ⟨v2, b2, k0, k1, hb2, he2⟩ := ev_draw (K := K) hd (i := 0) (ρ := [.own b1, c1, .fr d.d, .own (psD ps), .fr (.int (m : Int)), .fr (.str (pathS ws))]) rfl (ev_callF (X := E0) (ds := [.str (pathS ws)]) (ag_cons (ev_var (i := 5) rfl) ag_nil) hlv) rfl hb1 (by omega)
    obtain ⟨j, rfl⟩ := Int.eq_ofNat_of_zero_le k0
    have hpx := hp ws (1 + j) g1 (by omega) (by omega)
    have pok : PathOf d (ws.take (1 + j)) := ⟨ws, mx, 1 + j, by omega, by omega, rfl⟩
    have s2 : ExZ K [0] (tDrop (tBM K "list" rAppend (tVar 3) (tCons (tCall (SpZ K Rx) [] E0 (tCons (tVar 5) (tCons (tOp rAddI (tC (.int 1)) (tCall (SpZ K Rd) [] E0 (tCons (tVar 0) (tCons (tCall (SpZ K Rv) [] E0 (tCons (tVar 5) tNil)) tNil)))) tNil))) tNil))) [.own b1, c1, .fr d.d, .own (psD ps), .fr (.int (m : Int)), .fr (.str (pathS ws))] (.nx [.own b2, c1, .fr d.d, .own (psD (ps ++ [ws.take (1 + j)])), .fr (.int (m : Int)), .fr (.str (pathS ws))]) := by
      rw [← psD_snoc]
      exact ex_app (i := 3) (ev_callF (ds := [.str (pathS ws), .int ((1 + j : Nat) : Int)]) (ag_cons (ev_var (i := 5) rfl) (ag_cons (ev_is (ev_add ev_int he2) (by congr 1)) ag_nil)) hpx) rfl rfl (by rw [ps_fin]; omega)
    obtain ⟨qs, b', c4', c5', q1, q2, q3, q⟩ := co_loop hd hv hp gd (c1 := c1) n (m + 1) (ps ++ [ws.take (1 + j)]) b2 (.fr (.int (m : Int))) (.fr (.str (pathS ws))) hb2 (fun p hp => by
      rcases List.mem_append.mp hp with z | z
      · exact hp' p z
      · rw [List.mem_singleton.mp z]; exact pok) (by rw [List.length_append, List.length_cons, List.length_nil]; omega)
    exact ⟨qs, b', c4', c5', q1, q2, by rw [q3, List.length_append, List.length_cons, List.length_nil]; omega, .step tg_name (ex_seq s1 s2) q⟩
def CCo (R : Rel) : Prop := ∀ (b : List D) (ds : List Dm), GoodBox b → GoodDs ds → ∃ (c : Cd) (b' : List D), CdOk ds c ∧ GoodBox b' ∧ R (.own b :: [dimsD ds].map .fr) (.fr (cdD c)) (.own b' :: [dimsD ds].map .fr)
theorem rel_co {Rd Rv Rx : Rel} (hd : Spec Rd PreDraw PostDraw) (hv : CLevel Rv) (hp : CPrefix Rx) : CCo (RelOf K [0] (t__law_a_condition K Rd Rv Rx) 6 2) := fun b ds hb gd => by
  have few := gd.few
  obtain ⟨v, b1, h0, h1, hb1, he⟩ := ev_draw (K := K) hd (i := 0) (ρ := [.own b, .fr (dimsD ds), .no, .no, .no, .no]) rfl (ev_lenT (ds := ds.map Dm.d) (ev_var (i := 1) rfl).rd) rfl hb (by rw [List.length_map]; omega)
  rw [List.length_map] at h1
  obtain ⟨d, hx, mx⟩ := pick_i Dm.d h0 h1
  obtain ⟨v2, b2, k0, k1, hb2, he2⟩ := ev_draw (K := K) hd (i := 0) (ρ := [.own b1, .fr (dimsD ds), .fr d.d, .own (psD []), .no, .no]) rfl (ev_int (i := 3)) rfl hb1 (by decide)
  obtain ⟨j, rfl⟩ := Int.eq_ofNat_of_zero_le k0
  obtain ⟨qs, b', c4, c5, q1, q2, q3, q⟩ := co_loop (K := K) hd hv hp (gd.at_ mx) (c1 := .fr (dimsD ds)) (1 + j) 0 [] b2 .no .no hb2 (fun p hp => by cases hp) (by show 0 + (1 + j) ≤ 3; omega)
  have s1 : ExZ K [0] (tAsg (tOp (rIx K) (tVar 1) (tCall (SpZ K Rd) [] E0 (tCons (tVar 0) (tCons (tCB (rLenX K) (tCons (tVar 1) tNil)) tNil)))) (gName 2)) [.own b, .fr (dimsD ds), .no, .no, .no, .no] (.nx [.own b1, .fr (dimsD ds), .fr d.d, .no, .no, .no]) := ex_set (i := 2) (ev_ixT (ds := ds.map Dm.d) (ev_var (i := 1) rfl) he hx) (by decide)
  have s2 : ExZ K [0] (tAsg (tLst tNil) (gName 3)) [.own b1, .fr (dimsD ds), .fr d.d, .no, .no, .no] (.nx [.own b1, .fr (dimsD ds), .fr d.d, .own (psD []), .no, .no]) := ex_setN (i := 3) (en_lst ag_nil (by decide)) .refl (by decide)
  have s3 := ex_for (S := [0]) (it_range1 (n := ((1 + j : Nat) : Int)) (ag_cons (ev_is (ev_add (ev_int (K := K) (i := 1)) he2) (by congr 1)) ag_nil) ⟨by omega, by omega⟩) (by rw [Int.toNat_natCast]; exact q) (by decide)
  refine ⟨(d.name, qs), b', ⟨d, mx, rfl, fun e => ?_, by show qs.length ≤ 3; rw [q3]; show 0 + (1 + j) ≤ 3; omega, q2⟩, q1, rfl, _, .inl (ex_seq s1 (ex_seq s2 (ex_seq s3 (ex_ret (ev_tup (ds := [.str d.name, .tup (psD qs)]) (ag_cons (ev_ixT (i := 0) (ds := [.str d.name, d.tupD]) (ev_var (i := 2) rfl) ev_int (at_nat (j := 0) rfl)) (ag_cons (ev_tupO (i := 3) rfl) ag_nil)) (by show 2 ≤ 100000; decide)))))), fin_box (ds := [dimsD ds]) (by decide) rfl⟩
  have e' : qs = [] := e
  rw [e'] at q3
  simp only [List.length_nil] at q3
  omega
/-! ### trees -/
def CsOk (ds : List Dm) (cs : List Cd) : Prop := cs.length ≤ 3 ∧ (cs.map (·.1)).Nodup ∧ ∀ c ∈ cs, CdOk ds c
inductive TrOk (ds : List Dm) : Nat → Tr → Prop
  | sum {k : Nat} {cs : List Cd} : CsOk ds cs → TrOk ds (k + 1) (.sum cs)
  | times {k n : Nat} {t : Tr} : n ≤ 1000 → TrOk ds k t → TrOk ds (k + 1) (.times n t)
  | minus {k : Nat} {t : Tr} : TrOk ds k t → TrOk ds (k + 1) (.minus t)
  | plus {k : Nat} {a b : Tr} : TrOk ds k a → TrOk ds k b → TrOk ds (k + 1) (.plus a b)
  | less {k : Nat} {a b : Tr} : TrOk ds k a → TrOk ds k b → TrOk ds (k + 1) (.less a b)
def CTree (k : Nat) (R : Rel) : Prop := ∀ (b : List D) (ds : List Dm), GoodBox b → GoodDs ds → ∃ (t : Tr) (b' : List D), TrOk ds (k + 1) t ∧ GoodBox b' ∧ R (.own b :: [dimsD ds, .int (k : Int)].map .fr) (.fr t.d) (.own b' :: [dimsD ds, .int (k : Int)].map .fr)
theorem rows_loop {Rc Rd Rt : Rel} (hc : CCo Rc) {ds : List Dm} (gd : GoodDs ds) {c2 c3 c7 : Cell} : ∀ (n m : Nat) (cs : List Cd) (b : List D) (c5 c6 : Cell), GoodBox b → CsOk ds cs → cs.length + n ≤ 3 →
    ∃ (es : List Cd) (b' : List D) (c5' c6' : Cell), GoodBox b' ∧ CsOk ds es ∧ LoopZ K [0] (gName 5) (b__law_tree_2 K Rc Rd Rt) [5] (rangeD (m : Int) n) [.own b, .fr (dimsD ds), c2, c3, .own (cs.map cdD), c5, c6, c7, .no] (.nx [.own b', .fr (dimsD ds), c2, c3, .own (es.map cdD), c5', c6', c7, .no])
  | 0, m, cs, b, c5, c6, hb, hk, _ => ⟨cs, b, c5, c6, hb, hk, .nil⟩
  | n + 1, m, cs, b, c5, c6, hb, hk, hl => by
    rw [rangeD_cons]
    obtain ⟨c, b1, ok, hb1, hR⟩ := hc b ds hb gd
    have s1 : ExZ K [0] (tAsg (tCall (SpZ K Rc) [] E0 (tCons (tVar 0) (tCons (tVar 1) tNil))) (gName 6)) [.own b, .fr (dimsD ds), c2, c3, .own (cs.map cdD), .fr (.int (m : Int)), c6, c7, .no] (.nx [.own b1, .fr (dimsD ds), c2, c3, .own (cs.map cdD), .fr (.int (m : Int)), .fr (cdD c), c7, .no]) := ex_set (i := 6) (ev_callB (ds := [dimsD ds]) rfl (ag_cons (ev_var (i := 1) rfl) ag_nil) rfl hR) (by decide)
    have lc : EvN K (tLc (iList K (tVar 4)) (gName 8) tYes (e__law_tree_1 K Rc Rd Rt) [8]) [.own b1, .fr (dimsD ds), c2, c3, .own (cs.map cdD), .fr (.int (m : Int)), .fr (cdD c), c7, .no] [.own b1, .fr (dimsD ds), c2, c3, .own (cs.map cdD), .fr (.int (m : Int)), .fr (cdD c), c7, .no] ((cs.map (·.1)).map D.str) := by
      have e : (cs.map (·.1)).map D.str = (cs.map cdD).map fun x => match x with | .tup (y :: _) => y | _ => .non := by rw [List.map_map, List.map_map]; rfl
      rw [e]
      refine en_lcO (i0 := 4) (j := 8) _ rfl rfl (fun x hx => ?_) (by rw [List.length_map]; omega)
      obtain ⟨y, _, rfl⟩ := List.mem_map.mp hx
      exact ev_ixT (i := 0) (ds := [.str y.1, .tup (psD y.2)]) (ev_var (i := 8) rfl) ev_int (at_nat (j := 0) rfl)
    have tt : TsZ K (tTest (tOp (rIn K true) (tOp (rIx K) (tVar 6) (tC (.int 0))) (tLc (iList K (tVar 4)) (gName 8) tYes (e__law_tree_1 K Rc Rd Rt) [8]))) [.own b1, .fr (dimsD ds), c2, c3, .own (cs.map cdD), .fr (.int (m : Int)), .fr (cdD c), c7, .no] [.own b1, .fr (dimsD ds), c2, c3, .own (cs.map cdD), .fr (.int (m : Int)), .fr (cdD c), c7, .no] (!decide (c.1 ∈ cs.map (·.1))) :=
      ts_test (ev_inL (neg := true) (ev_ixT (i := 0) (ds := [.str c.1, .tup (psD c.2)]) (ev_var (i := 6) rfl) ev_int (at_nat (j := 0) rfl)) (EvN.rd lc))
    by_cases k : c.1 ∈ cs.map (·.1)
    · obtain ⟨es, b', c5', c6', q1, q2, q⟩ := rows_loop (Rd := Rd) (Rt := Rt) hc gd (c2 := c2) (c3 := c3) (c7 := c7) n (m + 1) cs b1 (.fr (.int (m : Int))) (.fr (cdD c)) hb1 hk (by omega)
      exact ⟨es, b', c5', c6', q1, q2, .step tg_name (ex_seq s1 (ex_ifF (ts_is tt (by rw [decide_eq_true k]; rfl)) ex_next)) q⟩
    · obtain ⟨es, b', c5', c6', q1, q2, q⟩ := rows_loop (Rd := Rd) (Rt := Rt) hc gd (c2 := c2) (c3 := c3) (c7 := c7) n (m + 1) (cs ++ [c]) b1 (.fr (.int (m : Int))) (.fr (cdD c)) hb1 ⟨by rw [List.length_append, List.length_cons, List.length_nil]; omega, by
        rw [List.map_append, List.nodup_append]
        refine ⟨hk.2.1, by simp, fun x hx y hy e => ?_⟩
        subst e
        rw [List.mem_singleton.mp hy] at hx
        exact k hx, fun x hx => by
        rcases List.mem_append.mp hx with z | z
        · exact hk.2.2 x z
        · rw [List.mem_singleton.mp z]; exact ok⟩ (by rw [List.length_append, List.length_cons, List.length_nil]; omega)
      rw [List.map_append] at q
      exact ⟨es, b', c5', c6', q1, q2, .step tg_name (ex_seq s1 (ex_ifT (ts_is tt (by rw [decide_eq_false k]; rfl)) (ex_app (i := 4) (ev_var (i := 6) rfl) rfl rfl (by rw [List.length_map]; omega)))) q⟩
theorem rel_tree {Rc Rd Rt : Rel} {k : Nat} (hd : Spec Rd PreDraw PostDraw) (hc : CCo Rc) (ht : ∀ j, k = j + 1 → CTree j Rt) : CTree k (RelOf K [0] (t__law_tree K Rc Rd Rt) 9 3) := fun b ds hb gd => by
  obtain ⟨v, b1, h0, h1, hb1, he⟩ := ev_draw (K := K) hd (i := 0) (ρ := [.own b, .fr (dimsD ds), .fr (.int (k : Int)), .no, .no, .no, .no, .no, .no]) rfl (ev_int (i := 7)) rfl hb (by decide)
  have s1 : ExZ K [0] (tAsg (tCall (SpZ K Rd) [] E0 (tCons (tVar 0) (tCons (tC (.int 7)) tNil))) (gName 3)) [.own b, .fr (dimsD ds), .fr (.int (k : Int)), .no, .no, .no, .no, .no, .no] (.nx [.own b1, .fr (dimsD ds), .fr (.int (k : Int)), .fr (.int v), .no, .no, .no, .no, .no]) := ex_set (i := 3) he (by decide)
  have fin : ∀ {b' : List D} {ρ' : Rho} {d : D}, ρ'[0]? = some (.own b') → FinZ [0] (.own b :: [dimsD ds, .int (k : Int)].map .fr) (.own b' :: [dimsD ds, .int (k : Int)].map .fr) ρ' (.fr d) := fun h => fin_box (ds := [dimsD ds, .int (k : Int)]) (by decide) h
  have t1 : TsZ K (tTest (tOp rLeI (tVar 2) (tC (.int 0)))) [.own b1, .fr (dimsD ds), .fr (.int (k : Int)), .fr (.int v), .no, .no, .no, .no, .no] [.own b1, .fr (dimsD ds), .fr (.int (k : Int)), .fr (.int v), .no, .no, .no, .no, .no] (decide ((k : Int) ≤ 0)) := ts_test (ev_le (ev_var (i := 2) rfl) ev_int)
  have t2 : TsZ K (tTest (tOp rLtI (tVar 3) (tC (.int 2)))) [.own b1, .fr (dimsD ds), .fr (.int (k : Int)), .fr (.int v), .no, .no, .no, .no, .no] [.own b1, .fr (dimsD ds), .fr (.int (k : Int)), .fr (.int v), .no, .no, .no, .no, .no] (decide (v < 2)) := ts_test (ev_lt (ev_var (i := 3) rfl) ev_int)
  have tor := ts_or t1 fun _ => t2
  by_cases hs : (decide ((k : Int) ≤ 0) || decide (v < 2)) = true
  · obtain ⟨v2, b2, k0, k1, hb2, he2⟩ := ev_draw (K := K) hd (i := 0) (ρ := [.own b1, .fr (dimsD ds), .fr (.int (k : Int)), .fr (.int v), .own ([].map cdD), .no, .no, .no, .no]) rfl (ev_int (i := 4)) rfl hb1 (by decide)
    obtain ⟨es, b', c5, c6, q1, q2, q⟩ := rows_loop (K := K) (Rd := Rd) (Rt := Rt) hc gd (c2 := .fr (.int (k : Int))) (c3 := .fr (.int v)) (c7 := .no) v2.toNat 0 [] b2 .no .no hb2 ⟨by decide, by simp, fun c h => by cases h⟩ (by show 0 + v2.toNat ≤ 3; omega)
    have s2 : ExZ K [0] (tAsg (tLst tNil) (gName 4)) [.own b1, .fr (dimsD ds), .fr (.int (k : Int)), .fr (.int v), .no, .no, .no, .no, .no] (.nx [.own b1, .fr (dimsD ds), .fr (.int (k : Int)), .fr (.int v), .own ([].map cdD), .no, .no, .no, .no]) := ex_setN (i := 4) (en_lst ag_nil (by decide)) .refl (by decide)
    have s3 := ex_for (S := [0]) (it_range1 (n := v2) (ag_cons he2 ag_nil) ⟨by omega, by omega⟩) q (by decide)
    exact ⟨.sum es, b', .sum q2, q1, rfl, _, .inl (ex_seq s1 (ex_seqR (ex_ifT (ts_is tor hs) (ex_seq s2 (ex_seq s3 (ex_ret (ev_tup (ds := [.str "sum", .tup (es.map cdD)]) (ag_cons ev_str (ag_cons (ev_tupO (i := 4) rfl) ag_nil)) (by show 2 ≤ 100000; decide)))))))), fin rfl⟩
  · have hs' : (decide ((k : Int) ≤ 0) || decide (v < 2)) = false := by simpa using hs
    have s2 := ex_ifF (S := [0]) (ts := (tSeq (tAsg (tLst tNil) (gName 4))
      (tSeq (tFor (iRng1 (tCons (tCall (SpZ K Rd) [] E0 (tCons (tVar 0) (tCons (tC (.int 4)) tNil))) tNil)) (gName 5) (b__law_tree_2 K Rc Rd Rt))
      (tRet (tTup (tCons (tC (.str "sum")) (tCons (tCB (rTupOf K) (tCons (tVar 4) tNil)) tNil))))))) (ts_is tor hs') ex_next
    obtain ⟨j, rfl⟩ : ∃ j, k = j + 1 := ⟨k - 1, by
      rw [Bool.or_eq_false_iff] at hs'
      have := of_decide_eq_false hs'.1
      omega⟩
    have hT := ht j rfl
    have dec : ∀ {b : List D} {c7 : Cell}, EvZ K (tOp rSubI (tVar 2) (tC (.int 1))) [.own b, .fr (dimsD ds), .fr (.int ((j + 1 : Nat) : Int)), .fr (.int v), .no, .no, .no, c7, .no] [.own b, .fr (dimsD ds), .fr (.int ((j + 1 : Nat) : Int)), .fr (.int v), .no, .no, .no, c7, .no] (.int (j : Int)) := fun {b c7} => ev_is (ev_sub (ev_var (i := 2) rfl) ev_int) (by congr 1; omega)
    have tree : ∀ {b : List D} {c7 : Cell}, GoodBox b → ∃ (t : Tr) (b' : List D), TrOk ds (j + 1) t ∧ GoodBox b' ∧ EvZ K (tCall (SpZ K Rt) [] E0 (tCons (tVar 0) (tCons (tVar 1) (tCons (tOp rSubI (tVar 2) (tC (.int 1))) tNil)))) [.own b, .fr (dimsD ds), .fr (.int ((j + 1 : Nat) : Int)), .fr (.int v), .no, .no, .no, c7, .no] [.own b', .fr (dimsD ds), .fr (.int ((j + 1 : Nat) : Int)), .fr (.int v), .no, .no, .no, c7, .no] t.d := fun {b c7} hb => by
      obtain ⟨t, b', x1, x2, x3⟩ := hT b ds hb gd
      exact ⟨t, b', x1, x2, ev_callB (ds := [dimsD ds, .int (j : Int)]) rfl (ag_cons (ev_var (i := 1) rfl) (ag_cons dec ag_nil)) rfl x3⟩
    have k2 : TsZ K (tTest (tOp rEq (tVar 3) (tC (.int 2)))) [.own b1, .fr (dimsD ds), .fr (.int ((j + 1 : Nat) : Int)), .fr (.int v), .no, .no, .no, .no, .no] [.own b1, .fr (dimsD ds), .fr (.int ((j + 1 : Nat) : Int)), .fr (.int v), .no, .no, .no, .no, .no] (decide (v = 2)) := ts_test (ev_eqI (ev_var (i := 3) rfl) ev_int)
    have k3 : TsZ K (tTest (tOp rEq (tVar 3) (tC (.int 3)))) [.own b1, .fr (dimsD ds), .fr (.int ((j + 1 : Nat) : Int)), .fr (.int v), .no, .no, .no, .no, .no] [.own b1, .fr (dimsD ds), .fr (.int ((j + 1 : Nat) : Int)), .fr (.int v), .no, .no, .no, .no, .no] (decide (v = 3)) := ts_test (ev_eqI (ev_var (i := 3) rfl) ev_int)
    by_cases v2 : v = 2
    · have dr : ∀ (q : Int) {b : List D}, GoodBox b → 0 < q → ∃ (u : Int) (b' : List D), 0 ≤ u ∧ u < q ∧ GoodBox b' ∧ EvZ K (tCall (SpZ K Rd) [] E0 (tCons (tVar 0) (tCons (tC (.int q)) tNil))) [.own b, .fr (dimsD ds), .fr (.int ((j + 1 : Nat) : Int)), .fr (.int v), .no, .no, .no, .no, .no] [.own b', .fr (dimsD ds), .fr (.int ((j + 1 : Nat) : Int)), .fr (.int v), .no, .no, .no, .no, .no] (.int u) := fun q {b} hb hq => ev_draw (K := K) hd (i := 0) (ρ := [.own b, .fr (dimsD ds), .fr (.int ((j + 1 : Nat) : Int)), .fr (.int v), .no, .no, .no, .no, .no]) rfl (ev_int (i := q)) rfl hb hq
      obtain ⟨u1, b2, a1, a2, hb2, e1⟩ := dr 4 hb1 (by decide)
      obtain ⟨u2, b3, a3, a4, hb3, e2⟩ := dr 40 hb2 (by decide)
      obtain ⟨u3, b4, a5, a6, hb4, e3⟩ := dr 1001 hb3 (by decide)
      obtain ⟨u4, b5, a7, a8, hb5, e4⟩ := dr 3 hb4 (by decide)
      obtain ⟨t, b6, x1, x2, x3⟩ := tree (c7 := .no) hb5
      obtain ⟨n, hn, pk⟩ : ∃ n : Nat, n ≤ 1000 ∧ atI [D.int u1, .int u2, .int u3] u4 = some (.int (n : Int)) := by
        have : u4 = 0 ∨ u4 = 1 ∨ u4 = 2 := by omega
        rcases this with rfl | rfl | rfl
        · exact ⟨u1.toNat, by omega, by rw [Int.toNat_of_nonneg a1]; rfl⟩
        · exact ⟨u2.toNat, by omega, by rw [Int.toNat_of_nonneg a3]; rfl⟩
        · exact ⟨u3.toNat, by omega, by rw [Int.toNat_of_nonneg a5]; rfl⟩
      exact ⟨.times n t, b6, .times hn x1, x2, rfl, _, .inl (ex_seq s1 (ex_seq s2 (ex_seqR (ex_ifT (ts_is k2 (decide_eq_true v2)) (ex_ret (ev_tup (ds := [.str "times", .int (n : Int), t.d]) (ag_cons ev_str (ag_cons (ev_ixT (ds := [.int u1, .int u2, .int u3]) (ev_tup (ag_cons e1 (ag_cons e2 (ag_cons e3 ag_nil))) (by show 3 ≤ 100000; decide)) e4 pk) (ag_cons x3 ag_nil))) (by show 3 ≤ 100000; decide))))))), fin rfl⟩
    · have s3 := ex_ifF (S := [0]) (ts := (tRet (tTup (tCons (tC (.str "times")) (tCons (tOp (rIx K) (tTup (tCons (tCall (SpZ K Rd) [] E0 (tCons (tVar 0) (tCons (tC (.int 4)) tNil))) (tCons (tCall (SpZ K Rd) [] E0 (tCons (tVar 0) (tCons (tC (.int 40)) tNil))) (tCons (tCall (SpZ K Rd) [] E0 (tCons (tVar 0) (tCons (tC (.int 1001)) tNil))) tNil)))) (tCall (SpZ K Rd) [] E0 (tCons (tVar 0) (tCons (tC (.int 3)) tNil)))) (tCons (tCall (SpZ K Rt) [] E0 (tCons (tVar 0) (tCons (tVar 1) (tCons (tOp rSubI (tVar 2) (tC (.int 1))) tNil)))) tNil)))))) (ts_is k2 (decide_eq_false v2)) ex_next
      by_cases v3 : v = 3
      · obtain ⟨t, b6, x1, x2, x3⟩ := tree (c7 := .no) hb1
        exact ⟨.minus t, b6, .minus x1, x2, rfl, _, .inl (ex_seq s1 (ex_seq s2 (ex_seq s3 (ex_seqR (ex_ifT (ts_is k3 (decide_eq_true v3)) (ex_ret (ev_tup (ds := [.str "minus", t.d]) (ag_cons ev_str (ag_cons x3 ag_nil)) (by show 2 ≤ 100000; decide)))))))), fin rfl⟩
      · have s4 := ex_ifF (S := [0]) (ts := (tRet (tTup (tCons (tC (.str "minus")) (tCons (tCall (SpZ K Rt) [] E0 (tCons (tVar 0) (tCons (tVar 1) (tCons (tOp rSubI (tVar 2) (tC (.int 1))) tNil)))) tNil))))) (ts_is k3 (decide_eq_false v3)) ex_next
        obtain ⟨t, b6, x1, x2, x3⟩ := tree (c7 := .no) hb1
        obtain ⟨u, b7, y1, y2, y3⟩ := tree (c7 := .fr t.d) x2
        have s5 : ExZ K [0] (tAsg (tCall (SpZ K Rt) [] E0 (tCons (tVar 0) (tCons (tVar 1) (tCons (tOp rSubI (tVar 2) (tC (.int 1))) tNil)))) (gName 7)) [.own b1, .fr (dimsD ds), .fr (.int ((j + 1 : Nat) : Int)), .fr (.int v), .no, .no, .no, .no, .no] (.nx [.own b6, .fr (dimsD ds), .fr (.int ((j + 1 : Nat) : Int)), .fr (.int v), .no, .no, .no, .fr t.d, .no]) := ex_set (i := 7) x3 (by decide)
        have k6 : TsZ K (tTest (tOp rLtI (tVar 3) (tC (.int 6)))) [.own b6, .fr (dimsD ds), .fr (.int ((j + 1 : Nat) : Int)), .fr (.int v), .no, .no, .no, .fr t.d, .no] [.own b6, .fr (dimsD ds), .fr (.int ((j + 1 : Nat) : Int)), .fr (.int v), .no, .no, .no, .fr t.d, .no] (decide (v < 6)) := ts_test (ev_lt (ev_var (i := 3) rfl) ev_int)
        by_cases v6 : v < 6
        · exact ⟨.plus t u, b7, .plus x1 y1, y2, rfl, _, .inl (ex_seq s1 (ex_seq s2 (ex_seq s3 (ex_seq s4 (ex_seq s5 (ex_ret (ev_tup (ds := [.str "plus", t.d, u.d]) (ag_cons (ev_ifT (ts_is k6 (decide_eq_true v6)) ev_str) (ag_cons (ev_var (i := 7) rfl) (ag_cons y3 ag_nil))) (by show 3 ≤ 100000; decide)))))))), fin rfl⟩
        · exact ⟨.less t u, b7, .less x1 y1, y2, rfl, _, .inl (ex_seq s1 (ex_seq s2 (ex_seq s3 (ex_seq s4 (ex_seq s5 (ex_ret (ev_tup (ds := [.str "less", t.d, u.d]) (ag_cons (ev_ifF (ts_is k6 (decide_eq_false v6)) ev_str) (ag_cons (ev_var (i := 7) rfl) (ag_cons y3 ag_nil))) (by show 3 ≤ 100000; decide)))))))), fin rfl⟩
end
end Pr
end Z

set_option Elab.async false
set_option linter.all false
set_option maxRecDepth 100000
set_option maxHeartbeats 2000000
/-! Law02: the law k02: members of levels. -/
namespace Z
open PySem PySem.Spec PyProof.Rows L2
open Evl (Ex Ex.refl Ex.trans Ex.new ex_rd ex_l ex_t sq_of st_of fresh_back sz_of sz_lt)
namespace K02
end K02
section
variable {K : PySem.W.Frag} {C Cn Cb : Addr} {Rsp Rdp Rlv Rmb Rpa Rtx Rb Rdt Rll Rms Rpf Rrp Rs Rwd Rh Rx : Rel} {RX : RelX}
/-! ### dimension_at -/
/-! ### what the law refuses -/
end
end Z

set_option Elab.async false
set_option linter.all false
set_option maxRecDepth 100000
set_option maxHeartbeats 2000000
/-! Law13: questions that are sums; expressions of groups. -/
namespace Z
open PySem PySem.Spec PyProof.Rows L2
open Evl (Ex Ex.refl Ex.trans Ex.new ex_rd ex_l ex_t sq_of st_of fresh_back sz_of sz_lt)
namespace K13
section
variable {K : PySem.W.Frag} {C : Addr}
/-! ### dimension_at -/
/-! ### the conditions of a group -/
/-! ### _meets -/
/-! ### _coefficients_of_sum -/
end
end K13
end Z

set_option Elab.async false
set_option linter.all false
set_option maxRecDepth 100000
set_option maxHeartbeats 2000000
/-! Law13b: the coefficients of a sum over a group; its text; the law. -/
namespace Z
open PySem PySem.Spec PyProof.Rows L2
open Evl (Ex Ex.refl Ex.trans Ex.new ex_rd ex_l ex_t sq_of st_of fresh_back sz_of sz_lt)
namespace K13
section
variable {K : PySem.W.Frag} {C : Addr} {ds0 : List Dm}
/-! ### the length of a written sum -/
/-! ### question_of -/
/-! ### group_expression -/
end
end K13
end Z

set_option Elab.async false
set_option linter.all false
set_option maxRecDepth 100000
set_option maxHeartbeats 2000000
/-! LawTz: the texts of trees as the law writes them. -/
namespace Z
open PySem PySem.Spec PyProof.Rows L2
open Evl (Ex Ex.refl Ex.trans Ex.new ex_rd ex_l ex_t sq_of st_of fresh_back sz_of sz_lt)
namespace Pr
section
variable {K : PySem.W.Frag} {ρ ρ1 ρ2 : Rho}
theorem ev_replG {ta tg : TE} {x g y : Str} (ha : EvZ K ta ρ ρ1 (.str x)) (hg : EvZ K tg ρ1 ρ2 (.str g)) (hl : x.length + (x.length + 1) * (g.length + y.length) ≤ 90000) : EvZ K (tReplG ta tg y) ρ ρ2 (.str (Txt.replace x y (g ++ y))) := fun M G H σ s Q q =>
  ha M G H σ s _ fun u G1 H1 g1 s1 du => ⟨x, du.str_inv, hg M G1 H1 σ s1 _ fun v G2 H2 g2 s2 dv => ⟨g, dv.str_inv, by omega, q _ G2 H2 (g1.trans g2) s2 (.str _)⟩⟩
theorem repl_path {ws : List Str} (hg : GoodW ws) (hne : ws ≠ []) (z : Str) : Txt.replace (pathS ws) "/" z = Str.join z ws := by
  have h1 : 1 ≤ ws.length := List.length_pos_iff.mpr hne
  have e := split_path hg h1
  have pos : 1 ≤ (pathS ws).length := by
    cases ws with
    | nil => exact absurd rfl hne
    | cons w vs => exact path_pos hg
  have es : (slS : Str) = "/" := rfl
  rw [es] at e
  have l1 : (("/" : Str)).length = 1 := by decide
  have k1 : Builtin.Str.strKind ("/" : Str) = 1 := by decide +kernel
  have kx : 1 ≤ Builtin.Str.strKind (pathS ws) := by
    unfold Builtin.Str.strKind
    split
    · exact Nat.le_refl _
    · split <;> decide
  unfold Txt.split at e
  rw [if_neg (by
    rw [l1, k1, Bool.or_eq_true]
    intro z
    rcases z with z | z
    · have := of_decide_eq_true z
      omega
    · have := of_decide_eq_true z
      omega)] at e
  unfold Txt.replace
  by_cases k : (Builtin.Str.occurrences (pathS ws) "/" 0 (pathS ws).length ((pathS ws).length + 1)).isEmpty = true
  · rw [if_pos k] at e
    rw [if_pos (by rw [k]; rfl), ← e]
    rfl
  · rw [if_neg k] at e
    rw [if_neg (by
      rw [Bool.or_eq_true]
      intro z
      rcases z with z | z
      · exact k z
      · rw [l1] at z
        exact absurd z (by simp)), e]
    exact TL.join_eq z ws
def CdW (c : Cd) : Prop := CdGood c ∧ c.2.length ≤ 3 ∧ ∀ p ∈ c.2, p.length ≤ 3
def SumW (cs : List Cd) : Prop := cs.length ≤ 3 ∧ ∀ c ∈ cs, CdW c
theorem CdOk.w {ds : List Dm} (gd : GoodDs ds) {c : Cd} (h : CdOk ds c) : CdW c := by
  obtain ⟨d, md, e, h1, h2, h3⟩ := h
  have g := gd.at_ md
  have key : ∀ p ∈ c.2, GoodW p ∧ p ≠ [] ∧ p.length ≤ 3 := fun p hp => by
    obtain ⟨ws, mw, n, n1, n2, rfl⟩ := h3 p hp
    have dw := g.depth ws mw
    have n3 := g.n3
    refine ⟨(g.words ws mw).take n, fun z => ?_, by rw [List.length_take]; omega⟩
    have := congrArg List.length z
    rw [List.length_take, List.length_nil] at this
    omega
  exact ⟨⟨by rw [e]; exact g.name, h1, fun p hp => ⟨(key p hp).1, (key p hp).2.1⟩⟩, h2, fun p hp => (key p hp).2.2⟩
/-! ### a row -/
theorem wa_slash : WA "/" [("/" : Str)] := wa_sign (c := 47) (by decide) (by decide +kernel) (by decide)
theorem wa_comma : WA "," [("," : Str)] := wa_sign (c := 44) (by decide) (by decide +kernel) (by decide)
theorem wa_lit {w s : Str} (e : s = " " ++ (w ++ " ")) (h : GoodTok (TL.tl w)) : WA s [w] := by
  rw [e]
  exact wa_blank.w0a ((wk_tok h).wa wa_blank)
theorem wa_in : WA " in " [("in" : Str)] := wa_lit (w := "in") (by decide) (lit_tok (by decide) (by decide +kernel))
theorem wa_and : WA " and " [("and" : Str)] := wa_lit (w := "and") (by decide) (lit_tok (by decide) (by decide +kernel))
theorem wa_where : WA " where " [("where" : Str)] := wa_lit (w := "where") (by decide) (lit_tok (by decide) (by decide +kernel))
theorem wk_path {ws : List Str} {g : Str} (hg : Blank g) (hw : GoodW ws) (hne : ws ≠ []) : Wk (Txt.replace (pathS ws) "/" (g ++ "/")) (pathT ws) := by
  rw [repl_path hw hne]
  cases ws with
  | nil => exact absurd rfl hne
  | cons w vs =>
    have z := wk_join (sep := g ++ "/") (m := ["/"]) (WA.gapL hg wa_slash) (fun x : Str => x) (fun x => [x]) w vs fun x hx => wk_word (hw x hx)
    rwa [List.map_id'] at z
theorem path3 {p : List Str} (hg : GoodW p) (h : p.length ≤ 3) : (pathS p).length ≤ 27 := by
  have := path_len hg
  omega
theorem repl_le {p : List Str} {g : Str} (hg : Blank g) (hw : GoodW p) (h : p.length ≤ 3) : (Txt.replace (pathS p) "/" (g ++ "/")).length ≤ 139 := by
  have l := path3 hw h
  have r := TK.replace_len (pathS p) "/" (g ++ "/")
  have lz : (g ++ ("/" : Str)).length ≤ 4 := by
    have l1 : (("/" : Str)).length = 1 := by decide
    have := hg.2
    rw [len_cat]
    omega
  have : ((pathS p).length + 1) * (g ++ ("/" : Str)).length ≤ 28 * 4 := Nat.mul_le_mul (by omega) lz
  omega
def rowX (g : Str) (c : Cd) : Str := (c.1 ++ " in ") ++ Txt.join ((g ++ ",") ++ g) (c.2.map fun p => Txt.replace (pathS p) "/" (g ++ "/"))
theorem row_wk {c : Cd} {g : Str} (hg : Blank g) (hc : CdGood c) : Wk (rowX g c) (cdT c) := by
  obtain ⟨c1, ps⟩ := c
  obtain ⟨h1, h2, h3⟩ := hc
  cases ps with
  | nil => exact absurd rfl h2
  | cons p qs =>
    unfold rowX
    rw [TL.join_eq]
    have z := wk_join (sep := (g ++ ",") ++ g) (m := [","]) (WA.gapR hg (WA.gapL hg wa_comma)) (fun p => Txt.replace (pathS p) "/" (g ++ "/")) pathT p qs fun x hx => wk_path hg (h3 x hx).1 (h3 x hx).2
    exact ((wk_word h1).wa wa_in).wk z
theorem row_le {c : Cd} {g : Str} (hg : Blank g) (hc : CdW c) : (rowX g c).length ≤ 460 ∧ (Txt.join ((g ++ ",") ++ g) (c.2.map fun p => Txt.replace (pathS p) "/" (g ++ "/"))).length ≤ 440 := by
  have l8 := (word_len hc.1.1).2
  have l4 : ((" in " : Str)).length = 4 := by decide
  have l1 : (("," : Str)).length = 1 := by decide
  have lg := hg.2
  have lc := hc.2.1
  have j := join_le (y := (g ++ ",") ++ g) (l := c.2.map fun p => Txt.replace (pathS p) "/" (g ++ "/")) (b := 139) fun s hs => by
    obtain ⟨p, hp, rfl⟩ := List.mem_map.mp hs
    exact repl_le hg (hc.1.2.2 p hp).1 (hc.2.2 p hp)
  rw [List.length_map, len_cat, len_cat, l1] at j
  have k1 : c.2.length * 139 ≤ 3 * 139 := Nat.mul_le_mul_right _ lc
  have k2 : c.2.length * (g.length + 1 + g.length) ≤ 3 * 7 := Nat.mul_le_mul lc (by omega)
  have j2 : (Txt.join ((g ++ ",") ++ g) (c.2.map fun p => Txt.replace (pathS p) "/" (g ++ "/"))).length ≤ 440 := by
    first
      | omega
      | (have : c.2.length * (139 + (g.length + 1 + g.length)) ≤ 3 * 146 := Nat.mul_le_mul lc (by omega)
         omega)
  refine ⟨?_, j2⟩
  unfold rowX
  rw [len_cat, len_cat, l4]
  omega
/-! ### conditions_text -/
def WK (z : Str) (l : List Str) : Prop := ∀ (ts : List (List Nat)) (k : Nat) (rest : List Nat), ∃ k', tokN ts k (TL.tl z ++ rest) = tokN (ts ++ l.map TL.tl) k' rest
theorem WA.wK {a b : Str} {l m : List Str} (h : WA a l) (k : Wk b m) : WK (a ++ b) (l ++ m) := fun ts j rest => by
  obtain ⟨i, e⟩ := k (ts ++ l.map TL.tl) rest
  exact ⟨i, by rw [TL.tl_append, List.append_assoc, h, e, app3]⟩
theorem Wk.wK {a b : Str} {l m : List Str} (h : Wk a l) (k : WK b m) : Wk (a ++ b) (l ++ m) := fun ts rest => by
  obtain ⟨j, e⟩ := h ts (TL.tl b ++ rest)
  obtain ⟨i, e2⟩ := k (ts ++ l.map TL.tl) j rest
  exact ⟨i, by rw [TL.tl_append, List.append_assoc, e, e2, app3]⟩
/-- a written row and its condition -/
def RowW (x : Str × Cd) : Prop := Wk x.1 (cdT x.2) ∧ x.1.length ≤ 460
theorem ct_loop {Rg : Rel} (hg : CGap Rg) {c1 : Cell} : ∀ (cs : List Cd) (done : List (Str × Cd)) (b : List D) (c3 c4 : Cell), GoodBox b → (∀ c ∈ cs, CdW c) → (∀ x ∈ done, RowW x) → done.length + cs.length ≤ 3 →
    ∃ (rows : List (Str × Cd)) (b' : List D) (c3' c4' : Cell), GoodBox b' ∧ (∀ x ∈ rows, RowW x) ∧ rows.map (·.2) = done.map (·.2) ++ cs ∧ LoopZ K [0] (gName 3) (b__law_conditions_text_2 K Rg) [3] (cs.map cdD) [.own b, c1, .own ((done.map (·.1)).map .str), c3, c4, .no] (.nx [.own b', c1, .own ((rows.map (·.1)).map .str), c3', c4', .no])
  | [], done, b, c3, c4, hb, _, hd, _ => ⟨done, b, c3, c4, hb, hd, (List.append_nil _).symm, .nil⟩
  | c :: cs, done, b, c3, c4, hb, hc, hd, hl => by
    obtain ⟨g, b1, hb1, bl, he⟩ := ev_gap (K := K) (ρ := [.own b, c1, .own ((done.map (·.1)).map .str), .fr (cdD c), c4, .no]) hg hb rfl
    have cw := hc c List.mem_cons_self
    obtain ⟨r1, r2⟩ := row_le bl cw
    rw [List.length_cons] at hl
    have l8 := (word_len cw.1.1).2
    have l4 : ((" in " : Str)).length = 4 := by decide
    have lc1 : (("," : Str)).length = 1 := by decide
    have lg := bl.2
    have s1 : ExZ K [0] (tAsg (tCall (SpZ K Rg) [] E0 (tCons (tVar 0) tNil)) (gName 4)) [.own b, c1, .own ((done.map (·.1)).map .str), .fr (cdD c), c4, .no] (.nx [.own b1, c1, .own ((done.map (·.1)).map .str), .fr (cdD c), .fr (.str g), .no]) := ex_set (i := 4) he (by decide)
    have lc : EvN K (tLc (iTup K (tOp (rIx K) (tVar 3) (tC (.int 1)))) (gName 5) tYes (e__law_conditions_text_1 K Rg) [5]) [.own b1, c1, .own ((done.map (·.1)).map .str), .fr (cdD c), .fr (.str g), .no] [.own b1, c1, .own ((done.map (·.1)).map .str), .fr (cdD c), .fr (.str g), .no] ((c.2.map fun p => Txt.replace (pathS p) "/" (g ++ "/")).map .str) := by
      have e1 : psD c.2 = c.2.map fun p => D.str (pathS p) := by unfold psD; rw [List.map_map]; rfl
      have e2 : ((c.2.map fun p => Txt.replace (pathS p) "/" (g ++ "/")).map D.str) = c.2.map fun p => D.str (Txt.replace (pathS p) "/" (g ++ "/")) := by rw [List.map_map]; rfl
      rw [e2]
      refine en_lc (A := [5]) (it_tup (ds := psD c.2) (ev_ixT (i := 1) (ds := [.str c.1, .tup (psD c.2)]) (ev_var (i := 3) rfl) ev_int (at_nat (j := 1) rfl))) ?_ (by decide) (by rw [ps_fin]; have := cw.2.1; omega)
      rw [e1]
      refine comp_mapA (K := K) (j := 5) (fun p => D.str (pathS p)) (fun p => D.str (Txt.replace (pathS p) "/" (g ++ "/"))) rfl c.2 fun p hp => ?_
      have p27 := path3 (cw.1.2.2 p hp).1 (cw.2.2 p hp)
      have ls : (("/" : Str)).length = 1 := by decide
      have m28 : ((pathS p).length + 1) * (g.length + (("/" : Str)).length) ≤ 28 * 4 := Nat.mul_le_mul (by omega) (by omega)
      exact ev_replG (ev_var (i := 5) rfl) (ev_var (i := 4) rfl) (by omega)
    have sm := sum_le (l := c.2.map fun p => Txt.replace (pathS p) "/" (g ++ "/")) (b := 139) fun s hs => by
      obtain ⟨p, hp, rfl⟩ := List.mem_map.mp hs
      exact repl_le bl (cw.1.2.2 p hp).1 (cw.2.2 p hp)
    rw [List.length_map] at sm
    have sm2 : c.2.length * 139 ≤ 3 * 139 := Nat.mul_le_mul_right _ cw.2.1
    have lsep : ((g ++ ",") ++ g).length ≤ 7 := by rw [len_cat, len_cat, lc1]; omega
    have sm3 : c.2.length * ((g ++ ",") ++ g).length ≤ 3 * 7 := Nat.mul_le_mul cw.2.1 lsep
    have s2 : ExZ K [0] (tDrop (tBM K "list" rAppend (tVar 2) (tCons (tOp rCatS (tOp rCatS (tOp (rIx K) (tVar 3) (tC (.int 0))) (tC (.str " in "))) (tM1 (rJoin K) (tOp rCatS (tOp rCatS (tVar 4) (tC (.str ","))) (tVar 4)) (tLc (iTup K (tOp (rIx K) (tVar 3) (tC (.int 1)))) (gName 5) tYes (e__law_conditions_text_1 K Rg) [5]))) tNil))) [.own b1, c1, .own ((done.map (·.1)).map .str), .fr (cdD c), .fr (.str g), .no] (.nx [.own b1, c1, .own (((done ++ [(rowX g c, c)]).map (·.1)).map .str), .fr (cdD c), .fr (.str g), .no]) := by
      rw [List.map_append, List.map_append]
      exact ex_app (i := 2) (ev_catS (ev_catS (ev_ixT (i := 0) (ds := [.str c.1, .tup (psD c.2)]) (ev_var (i := 3) rfl) ev_int (at_nat (j := 0) rfl)) ev_str (by omega)) (ev_join (ev_catS (ev_catS (ev_var (i := 4) rfl) ev_str (by omega)) (ev_var (i := 4) rfl) (by rw [len_cat]; omega)) (EvN.rd lc) (by rw [List.length_map]; omega)) (by rw [len_cat]; omega)) rfl rfl (by rw [List.length_map, List.length_map]; omega)
    obtain ⟨rows, b', c3', c4', q1, q2, q3, q⟩ := ct_loop hg (c1 := c1) cs (done ++ [(rowX g c, c)]) b1 (.fr (cdD c)) (.fr (.str g)) hb1 (fun x hx => hc x (List.mem_cons_of_mem _ hx)) (fun x hx => by
      rcases List.mem_append.mp hx with z | z
      · exact hd x z
      · rw [List.mem_singleton.mp z]; exact ⟨row_wk bl cw.1, r1⟩) (by rw [List.length_append, List.length_cons, List.length_nil]; omega)
    rw [List.map_append, List.append_assoc] at q3
    exact ⟨rows, b', c3', c4', q1, q2, q3, .step tg_name (ex_seq s1 s2) q⟩
def CCt (R : Rel) : Prop := ∀ (b : List D) (cs : List Cd), GoodBox b → SumW cs → cs ≠ [] → ∃ (z : Str) (b' : List D), GoodBox b' ∧ z.length ≤ 1450 ∧ WK z ("where" :: joinT ["and"] (cs.map cdT)) ∧ R (.own b :: [.tup (cs.map cdD)].map .fr) (.fr (.str z)) (.own b' :: [.tup (cs.map cdD)].map .fr)
theorem rel_ct {Rg : Rel} (hg : CGap Rg) : CCt (RelOf K [0] (t__law_conditions_text K Rg) 6 2) := fun b cs hb hs hne => by
  obtain ⟨rows, b', c3, c4, q1, q2, q3, q⟩ := ct_loop (K := K) hg (c1 := .fr (.tup (cs.map cdD))) cs [] b .no .no hb hs.2 (fun x h => by cases h) (by show 0 + cs.length ≤ 3; have := hs.1; omega)
  rw [List.map_nil, List.nil_append] at q3
  have rl : rows.length = cs.length := by rw [← q3, List.length_map]
  have h3 := hs.1
  have j := join_le (y := " and ") (l := rows.map (·.1)) (b := 460) fun s hs => by
    obtain ⟨x, hx, rfl⟩ := List.mem_map.mp hs
    exact (q2 x hx).2
  have sm := sum_le (l := rows.map (·.1)) (b := 460) fun s hs => by
    obtain ⟨x, hx, rfl⟩ := List.mem_map.mp hs
    exact (q2 x hx).2
  have l5 : ((" and " : Str)).length = 5 := by decide
  have l7 : ((" where " : Str)).length = 7 := by decide
  rw [List.length_map, l5] at j
  rw [List.length_map] at sm
  have j2 : (Txt.join " and " (rows.map (·.1))).length ≤ 3 * 465 := Nat.le_trans j (Nat.mul_le_mul_right _ (by omega))
  have s1 : ExZ K [0] (tAsg (tLst tNil) (gName 2)) [.own b, .fr (.tup (cs.map cdD)), .no, .no, .no, .no] (.nx [.own b, .fr (.tup (cs.map cdD)), .own ((([] : List (Str × Cd)).map (·.1)).map .str), .no, .no, .no]) := ex_setN (i := 2) (en_lst ag_nil (by decide)) .refl (by decide)
  refine ⟨" where " ++ Txt.join " and " (rows.map (·.1)), b', q1, by rw [len_cat, l7]; omega, ?_, rfl, _, .inl (ex_seq s1 (ex_seq (ex_for (it_tup (ds := cs.map cdD) (ev_var (i := 1) rfl)) q (by decide)) (ex_ret (ev_catS ev_str (ev_join ev_str (rd_own (i := 2) rfl) (by rw [List.length_map, l5]; omega)) (by rw [l7]; omega))))), fin_box (ds := [.tup (cs.map cdD)]) (by decide) rfl⟩
  have ec : cs.map cdT = rows.map fun x => cdT x.2 := by rw [← q3, List.map_map]; rfl
  rw [TL.join_eq, ec]
  cases rows with
  | nil => exact absurd (List.length_eq_zero_iff.mp (by rw [← rl]; rfl)) hne
  | cons x xs => exact wa_where.wK (wk_join wa_and (fun x : Str × Cd => x.1) (fun x => cdT x.2) x xs fun y hy => (q2 y hy).1)
end
end Pr
end Z

set_option Elab.async false
set_option linter.all false
set_option maxRecDepth 100000
set_option maxHeartbeats 2000000
/-! LawT2: factors, terms, trees written by the law. -/
namespace Z
open PySem PySem.Spec PyProof.Rows L2
open Evl (Ex Ex.refl Ex.trans Ex.new ex_rd ex_l ex_t sq_of st_of fresh_back sz_of sz_lt)
namespace Pr
section
variable {K : PySem.W.Frag} {ρ ρ1 ρ2 : Rho}
def Lb : Nat → Nat
  | 0 => 1500
  | k + 1 => 2 * Lb k + 100
theorem Lb_ge : ∀ k, 1500 ≤ Lb k
  | 0 => Nat.le_refl _
  | k + 1 => by
    have := Lb_ge k
    show 1500 ≤ 2 * Lb k + 100
    omega
theorem Lb_mono : ∀ {j k : Nat}, j ≤ k → Lb j ≤ Lb k := fun {j k} h => by
  induction h with
  | refl => exact Nat.le_refl _
  | step _ ih => exact Nat.le_trans ih (by show _ ≤ 2 * Lb _ + 100; omega)
theorem Lb_le {k : Nat} (h : k ≤ 4) : Lb k ≤ 30000 := Nat.le_trans (Lb_mono h) (by decide)
inductive TrW : Nat → Tr → Prop
  | sum {k : Nat} {cs : List Cd} : SumW cs → TrW (k + 1) (.sum cs)
  | times {k n : Nat} {t : Tr} : n ≤ 1000 → TrW k t → TrW (k + 1) (.times n t)
  | minus {k : Nat} {t : Tr} : TrW k t → TrW (k + 1) (.minus t)
  | plus {k : Nat} {a b : Tr} : TrW k a → TrW k b → TrW (k + 1) (.plus a b)
  | less {k : Nat} {a b : Tr} : TrW k a → TrW k b → TrW (k + 1) (.less a b)
theorem TrOk.w {ds : List Dm} (gd : GoodDs ds) {k : Nat} {t : Tr} (h : TrOk ds k t) : TrW k t := by
  induction h with
  | sum h => exact .sum ⟨h.1, fun c hc => (h.2.2 c hc).w gd⟩
  | times hn _ ih => exact .times hn ih
  | minus _ ih => exact .minus ih
  | plus _ _ i1 i2 => exact .plus i1 i2
  | less _ _ i1 i2 => exact .less i1 i2
theorem TrW.succ {k : Nat} {t : Tr} (h : TrW k t) : TrW (k + 1) t := by
  induction h with
  | sum h => exact .sum h
  | times hn _ ih => exact .times hn ih
  | minus _ ih => exact .minus ih
  | plus _ _ i1 i2 => exact .plus i1 i2
  | less _ _ i1 i2 => exact .less i1 i2
def FacOk (k : Nat) (t : Tr) : Prop := TrW k t ∨ ∃ cs, t = .sum cs ∧ SumW cs
def isTimes : Tr → Bool
  | .times _ _ => true
  | _ => false
def TrmOk (k : Nat) (t : Tr) : Prop := (∃ n u, t = .times n u ∧ n ≤ 1000 ∧ FacOk k u) ∨ (isTimes t = false ∧ FacOk k t)
/-- what a text of the tree t is, written by R -/
def CTx (i k L : Nat) (ok : Tr → Prop) (R : Rel) : Prop := ∀ (b : List D) (t : Tr), GoodBox b → ok t → ∃ (z : Str) (l : List Str) (b' : List D), GoodBox b' ∧ z.length ≤ L ∧ Wk z l ∧ TT i k t l ∧ R (.own b :: [t.d].map .fr) (.fr (.str z)) (.own b' :: [t.d].map .fr)
theorem wa_open : WA "(" [("(" : Str)] := wa_sign (c := 40) (by decide) (by decide +kernel) (by decide)
theorem wa_close : WA ")" [(")" : Str)] := wa_sign (c := 41) (by decide) (by decide +kernel) (by decide)
theorem wa_star : WA "*" [("*" : Str)] := wa_sign (c := 42) (by decide) (by decide +kernel) (by decide)
theorem wa_plus : WA "+" [("+" : Str)] := wa_sign (c := 43) (by decide) (by decide +kernel) (by decide)
theorem wa_minus : WA "-" [("-" : Str)] := wa_sign (c := 45) (by decide) (by decide +kernel) (by decide)
theorem wk_sum : Wk "sum" [("sum" : Str)] := wk_tok (lit_tok (by decide) (by decide +kernel))
/-- the text behind sum -/
theorem ev_cond {Rc : Rel} {L : Nat} (hc : CCt Rc) {b : List D} {cs : List Cd} (hb : GoodBox b) (hs : SumW cs) (h0 : ρ = [.own b, .fr (Tr.sum cs).d]) : ∃ (z : Str) (b' : List D), GoodBox b' ∧ z.length ≤ 1450 ∧ Wk ("sum" ++ z) (sTok cs) ∧ Wk ("(sum" ++ z) (("(" : Str) :: sTok cs) ∧
    EvZ K (tIf (tTest (tOp rGtI (tCB (rLenX K) (tCons (tOp (rIx K) (tVar 1) (tC (.int 1))) tNil)) (tC (.int 0)))) (tCall (SpZ K Rc) [] E0 (tCons (tVar 0) (tCons (tOp (rIx K) (tVar 1) (tC (.int 1))) tNil))) (tC (.str ""))) ρ [.own b', .fr (Tr.sum cs).d] (.str z) := by
  subst h0
  have e1 : EvZ K (tOp (rIx K) (tVar 1) (tC (.int 1))) [.own b, .fr (Tr.sum cs).d] [.own b, .fr (Tr.sum cs).d] (.tup (cs.map cdD)) := ev_ixT (i := 1) (ds := [.str "sum", .tup (cs.map cdD)]) (ev_var (i := 1) rfl) ev_int (at_nat (j := 1) rfl)
  have tt : TsZ K (tTest (tOp rGtI (tCB (rLenX K) (tCons (tOp (rIx K) (tVar 1) (tC (.int 1))) tNil)) (tC (.int 0)))) [.own b, .fr (Tr.sum cs).d] [.own b, .fr (Tr.sum cs).d] (decide ((0 : Int) < ((cs.map cdD).length : Int))) := ts_test (ev_gt (ev_lenT e1.rd) ev_int)
  have eo : ("(sum" : Str) = "(" ++ "sum" := by decide
  by_cases k : cs = []
  · subst k
    have e0 : ("sum" : Str) ++ "" = "sum" := by decide
    have e02 : ("(sum" : Str) ++ "" = "(" ++ "sum" := by decide
    exact ⟨"", b, hb, by decide, by rw [e0]; exact wk_sum, by rw [e02]; exact wa_open.w0.wk wk_sum, ev_ifF (ts_is tt (by decide)) ev_str⟩
  · obtain ⟨z, b', h1, h2, h3, h4⟩ := hc b cs hb hs k
    have es : sTok cs = ("sum" : Str) :: ("where" :: joinT ["and"] (cs.map cdT)) := by unfold sTok; rw [if_neg k]
    have pos : 0 < cs.length := List.length_pos_iff.mpr k
    have w := wk_sum.wK h3
    have sa : ∀ a b c : Str, a ++ b ++ c = a ++ (b ++ c) := PySem.Str.append_assoc
    exact ⟨z, b', h1, h2, by rw [es]; exact w, by rw [es, eo, sa]; exact wa_open.w0.wk w, ev_ifT (ts_is tt (decide_eq_true (by rw [List.length_map]; omega))) (ev_callB (ds := [.tup (cs.map cdD)]) rfl (ag_cons e1 ag_nil) rfl h4)⟩
theorem kind_is {b : List D} {t : Tr} {s q : Str} {r : List D} {rest : Rho} (e : t.d = .tup (.str s :: r)) : TsZ K (tTest (tOp rEq (tOp (rIx K) (tVar 1) (tC (.int 0))) (tC (.str q)))) (.own b :: .fr t.d :: rest) (.own b :: .fr t.d :: rest) (decide (s = q)) :=
  ts_test (ev_eqS (ev_ixT (i := 0) (ds := .str s :: r) (ev_var (i := 1) (by rw [e]; rfl)) ev_int (at_nat (j := 0) rfl)) ev_str)
theorem rel_fa {Rc Rd Rg Rt : Rel} {k : Nat} (hk : k ≤ 4) (hd : Spec Rd PreDraw PostDraw) (hg : CGap Rg) (hc : CCt Rc) (ht : CTx 2 k (Lb k) (TrW k) Rt) : CTx 0 (k + 1) (Lb k + 10) (FacOk k) (RelOf K [0] (t__law_factor_text K Rc Rd Rg Rt) 2 2) := fun b t hb ok => by
  have lk := Lb_le (k := k) (by omega)
  have lg := Lb_ge k
  have l1 : (("(" : Str)).length = 1 := by decide
  have l1' : ((")" : Str)).length = 1 := by decide
  have l3 : (("sum" : Str)).length = 3 := by decide
  have l4 : (("(sum" : Str)).length = 4 := by decide
  by_cases is : ∃ cs, t = .sum cs ∧ SumW cs
  · obtain ⟨cs, rfl, hs⟩ := is
    have k0 : TsZ K (tTest (tOp rEq (tOp (rIx K) (tVar 1) (tC (.int 0))) (tC (.str "sum")))) [.own b, .fr (Tr.sum cs).d] [.own b, .fr (Tr.sum cs).d] true := ts_is (kind_is (rest := []) (t := .sum cs) (s := "sum") rfl) (by decide)
    obtain ⟨v, b1, h0, h1, hb1, he⟩ := ev_draw (K := K) hd (i := 0) (ρ := [.own b, .fr (Tr.sum cs).d]) rfl (ev_int (i := 6)) rfl hb (by decide)
    have tt : TsZ K (tTest (tOp rGtI (tCall (SpZ K Rd) [] E0 (tCons (tVar 0) (tCons (tC (.int 6)) tNil))) (tC (.int 0)))) [.own b, .fr (Tr.sum cs).d] [.own b1, .fr (Tr.sum cs).d] (decide (0 < v)) := ts_test (ev_gt he ev_int)
    obtain ⟨z, b2, hb2, lz, w1, w2, ev⟩ := ev_cond (K := K) (L := 0) hc (cs := cs) hb1 hs rfl
    by_cases q : 0 < v
    · exact ⟨"sum" ++ z, sTok cs, b2, hb2, by rw [len_cat, l3]; omega, w1, .sum fun c hc => (hs.2 c hc).1, rfl, _, .inl (ex_seqR (ex_ifT (ts_andT k0 (ts_is tt (decide_eq_true q))) (ex_ret (ev_catS ev_str ev (by omega))))), fin_box (ds := [(Tr.sum cs).d]) (by decide) rfl⟩
    · obtain ⟨g, b3, hb3, bl, eg⟩ := ev_gap (K := K) (ρ := [.own b2, .fr (Tr.sum cs).d]) hg hb2 rfl
      have lgl := bl.2
      have k1 : TsZ K (tTest (tOp rEq (tOp (rIx K) (tVar 1) (tC (.int 0))) (tC (.str "sum")))) [.own b1, .fr (Tr.sum cs).d] [.own b1, .fr (Tr.sum cs).d] true := ts_is (kind_is (rest := []) (t := .sum cs) (s := "sum") rfl) (by decide)
      have wz : Wk ((("(sum" ++ z) ++ g) ++ ")") ((("(" : Str) :: sTok cs) ++ [(")" : Str)]) := ((w2.gapR bl).wa wa_close).k
      exact ⟨(("(sum" ++ z) ++ g) ++ ")", (("(" : Str) :: sTok cs) ++ [(")" : Str)], b3, hb3, by rw [len_cat, len_cat, len_cat, l4, l1']; omega, wz, .par (.trm (.fac (.sum fun c hc => (hs.2 c hc).1))), rfl, _, .inl (ex_seq (ex_ifF (ts_andT k0 (ts_is tt (decide_eq_false q))) ex_next) (ex_seqR (ex_ifT k1 (ex_ret (ev_catS (ev_catS (ev_catS ev_str ev (by omega)) eg (by rw [len_cat]; omega)) ev_str (by rw [len_cat, len_cat]; omega)))))), fin_box (ds := [(Tr.sum cs).d]) (by decide) rfl⟩
  · have tw : TrW k t := by
      rcases ok with h | h
      · exact h
      · exact absurd h is
    have ns : ∃ s r, t.d = .tup (.str s :: r) ∧ s ≠ "sum" := by
      cases t with
      | sum cs =>
        cases tw with
        | sum h => exact absurd ⟨cs, rfl, h⟩ is
      | times n u => exact ⟨_, _, rfl, by decide⟩
      | minus u => exact ⟨_, _, rfl, by decide⟩
      | plus u v => exact ⟨_, _, rfl, by decide⟩
      | less u v => exact ⟨_, _, rfl, by decide⟩
    obtain ⟨s, r, ed, ne⟩ := ns
    have k0 : TsZ K (tTest (tOp rEq (tOp (rIx K) (tVar 1) (tC (.int 0))) (tC (.str "sum")))) [.own b, .fr t.d] [.own b, .fr t.d] false := ts_is (kind_is (rest := []) ed) (decide_eq_false ne)
    obtain ⟨g, b1, hb1, bl, eg⟩ := ev_gap (K := K) (ρ := [.own b, .fr t.d]) hg hb rfl
    have lgl := bl.2
    obtain ⟨z, l, b2, hb2, lz, w, tt, hR⟩ := ht b1 t hb1 tw
    have wz : Wk ((("(" ++ g) ++ z) ++ ")") (("(" : Str) :: (l ++ [(")" : Str)])) := ((((WA.gapR bl wa_open).w0.wk w).wa wa_close)).k
    exact ⟨(("(" ++ g) ++ z) ++ ")", ("(" : Str) :: (l ++ [(")" : Str)]), b2, hb2, by rw [len_cat, len_cat, len_cat, l1, l1']; omega, wz, .par tt, rfl, _, .inl (ex_seq (ex_ifF (ts_andF k0) ex_next) (ex_seq (ex_ifF k0 ex_next) (ex_ret (ev_catS (ev_catS (ev_catS ev_str eg (by omega)) (ev_callB (ds := [t.d]) rfl (ag_cons (ev_var (i := 1) rfl) ag_nil) rfl hR) (by rw [len_cat]; omega)) ev_str (by rw [len_cat, len_cat]; omega))))), fin_box (ds := [t.d]) (by decide) rfl⟩
theorem wk_num {n : Nat} (h : n ≤ 1000) : Wk (numT n) [numT n] ∧ (numT n).length ≤ 4 := by
  obtain ⟨h1, h2, h3⟩ := num_ok h
  have hl : (numT n).length = (numT n).cps.toList.length := (Array.length_toList).symm
  refine ⟨wk_tok (.inl ⟨2, by decide, ?_, fun c hc => ?_⟩), by rw [hl, h3]; exact TL.numL_len (by decide) (by omega)⟩
  · show (numT n).cps.toList ≠ []
    rw [h3]
    exact TL.numL_ne n
  · have hc' : c ∈ TL.numL n := by
      have : c ∈ (numT n).cps.toList := hc
      rwa [h3] at this
    have d := TL.numL_digits n c hc'
    have : c ∈ ([48, 49, 50, 51, 52, 53, 54, 55, 56, 57] : List Nat) := by
      simp only [List.mem_cons, List.not_mem_nil, or_false]
      omega
    revert this
    have all : ∀ c ∈ ([48, 49, 50, 51, 52, 53, 54, 55, 56, 57] : List Nat), kdN c = 2 := by decide +kernel
    exact all c
theorem rel_tm {Rf Rg : Rel} {k : Nat} (hk : k ≤ 4) (hg : CGap Rg) (hf : CTx 0 (k + 1) (Lb k + 10) (FacOk k) Rf) : CTx 1 (k + 1) (Lb k + 30) (TrmOk k) (RelOf K [0] (t__law_term_text K Rf Rg) 2 2) := fun b t hb ok => by
  have lk := Lb_le (k := k) (by omega)
  rcases ok with ⟨n, u, rfl, hn, fu⟩ | ⟨nt, ft⟩
  · have k0 : TsZ K (tTest (tOp rEq (tOp (rIx K) (tVar 1) (tC (.int 0))) (tC (.str "times")))) [.own b, .fr (Tr.times n u).d] [.own b, .fr (Tr.times n u).d] true := ts_is (kind_is (rest := []) (t := .times n u) (s := "times") rfl) (by decide)
    obtain ⟨g, b1, hb1, bl, eg⟩ := ev_gap (K := K) (ρ := [.own b, .fr (Tr.times n u).d]) hg hb rfl
    obtain ⟨g2, b2, hb2, bl2, eg2⟩ := ev_gap (K := K) (ρ := [.own b1, .fr (Tr.times n u).d]) hg hb1 rfl
    obtain ⟨z, l, b3, hb3, lz, w, tt, hR⟩ := hf b2 u hb2 fu
    obtain ⟨wn, ln⟩ := wk_num hn
    have l1 : (("*" : Str)).length = 1 := by decide
    have lg1 := bl.2
    have lg2 := bl2.2
    have en : EvZ K (tCB rStrI (tCons (tOp (rIx K) (tVar 1) (tC (.int 1))) tNil)) [.own b, .fr (Tr.times n u).d] [.own b, .fr (Tr.times n u).d] (.str (numT n)) :=
      ev_strI (i := (n : Int)) (ev_ixT (i := 1) (ds := [.str "times", .int (n : Int), u.d]) (ev_var (i := 1) rfl) ev_int (at_nat (j := 1) rfl)) (by
        rw [Int.natAbs_natCast]
        exact Nat.lt_of_le_of_lt (Nat.log2_le_self n) (by omega))
    have wz : Wk ((((numT n ++ g) ++ "*") ++ g2) ++ z) (numT n :: ("*" : Str) :: l) := by
      have w1 := (((wn.gapR bl).wa wa_star).gapR bl2).wk w
      exact w1
    exact ⟨(((numT n ++ g) ++ "*") ++ g2) ++ z, numT n :: ("*" : Str) :: l, b3, hb3, by rw [len_cat, len_cat, len_cat, len_cat, l1]; omega, wz, .times hn tt, rfl, _, .inl (ex_seqR (ex_ifT k0 (ex_ret (ev_catS (ev_catS (ev_catS (ev_catS en eg (by omega)) ev_str (by rw [len_cat]; omega)) eg2 (by rw [len_cat, len_cat]; omega)) (ev_callB (ds := [u.d]) rfl (ag_cons (ev_ixT (i := 2) (ds := [.str "times", .int (n : Int), u.d]) (ev_var (i := 1) rfl) ev_int (at_nat (j := 2) rfl)) ag_nil) rfl hR) (by rw [len_cat, len_cat, len_cat]; omega))))), fin_box (ds := [(Tr.times n u).d]) (by decide) rfl⟩
  · have ns : ∃ s r, t.d = .tup (.str s :: r) ∧ s ≠ "times" := by
      cases t with
      | sum cs => exact ⟨_, _, rfl, by decide⟩
      | times n u => cases nt
      | minus u => exact ⟨_, _, rfl, by decide⟩
      | plus u v => exact ⟨_, _, rfl, by decide⟩
      | less u v => exact ⟨_, _, rfl, by decide⟩
    obtain ⟨s, r, ed, ne⟩ := ns
    have k0 : TsZ K (tTest (tOp rEq (tOp (rIx K) (tVar 1) (tC (.int 0))) (tC (.str "times")))) [.own b, .fr t.d] [.own b, .fr t.d] false := ts_is (kind_is (rest := []) ed) (decide_eq_false ne)
    obtain ⟨z, l, b1, hb1, lz, w, tt, hR⟩ := hf b t hb ft
    exact ⟨z, l, b1, hb1, by omega, w, .fac tt, rfl, _, .inl (ex_seq (ex_ifF k0 ex_next) (ex_ret (ev_callB (ds := [t.d]) rfl (ag_cons (ev_var (i := 1) rfl) ag_nil) rfl hR))), fin_box (ds := [t.d]) (by decide) rfl⟩
theorem trm_of {k : Nat} {t : Tr} (h : TrW k t) : TrmOk k t := by
  cases t with
  | times n u =>
    cases h with
    | times hn h => exact .inl ⟨n, u, rfl, hn, .inl h.succ⟩
  | sum cs => exact .inr ⟨rfl, .inl h⟩
  | minus u => exact .inr ⟨rfl, .inl h⟩
  | plus u v => exact .inr ⟨rfl, .inl h⟩
  | less u v => exact .inr ⟨rfl, .inl h⟩
theorem rel_tx {Rg Rm Rt : Rel} {k : Nat} (hk : k ≤ 4) (hg : CGap Rg) (hm : CTx 1 (k + 1) (Lb k + 30) (TrmOk k) Rm) (ht : CTx 2 k (Lb k) (TrW k) Rt) : CTx 2 (k + 1) (Lb (k + 1)) (TrW (k + 1)) (RelOf K [0] (t__law_tree_text K Rg Rm Rt) 3 2) := fun b t hb ok => by
  have lk := Lb_le (k := k) (by omega)
  have lb : Lb (k + 1) = 2 * Lb k + 100 := rfl
  have lge := Lb_ge k
  have lp : (("+" : Str)).length = 1 := by decide
  have lm : (("-" : Str)).length = 1 := by decide
  -- two trees joined by a sign
  have two : ∀ (u v : Tr) (s sg : Str), t.d = .tup [.str s, u.d, v.d] → (s = "plus" ∧ sg = "+" ∨ s = "less" ∧ sg = "-") → WA sg [sg] → sg.length = 1 → TrW k u → TrW k v → (∀ l m, TT 2 (k + 1) u l → TT 1 (k + 1) v m → TT 2 (k + 1) t (l ++ sg :: m)) →
      ∃ (z : Str) (l : List Str) (b' : List D), GoodBox b' ∧ z.length ≤ Lb (k + 1) ∧ Wk z l ∧ TT 2 (k + 1) t l ∧ RelOf K [0] (t__law_tree_text K Rg Rm Rt) 3 2 (.own b :: [t.d].map .fr) (.fr (.str z)) (.own b' :: [t.d].map .fr) := fun u v s sg ed hs wa l1 tu tv con => by
    have kp := kind_is (K := K) (b := b) (rest := [.no]) (q := "plus") ed
    have kl := kind_is (K := K) (b := b) (rest := [.no]) (q := "less") ed
    have kor : TsZ K (tOr (tTest (tOp rEq (tOp (rIx K) (tVar 1) (tC (.int 0))) (tC (.str "plus")))) (tTest (tOp rEq (tOp (rIx K) (tVar 1) (tC (.int 0))) (tC (.str "less"))))) [.own b, .fr t.d, .no] [.own b, .fr t.d, .no] true := by
      rcases hs with ⟨e, _⟩ | ⟨e, _⟩
      · exact ts_orT (ts_is kp (decide_eq_true e))
      · exact ts_orF (ts_is kp (decide_eq_false (by rw [e]; decide))) (ts_is kl (decide_eq_true e))
    have s1 : ExZ K [0] (tAsg (tIf (tTest (tOp rEq (tOp (rIx K) (tVar 1) (tC (.int 0))) (tC (.str "plus")))) (tC (.str "+")) (tC (.str "-"))) (gName 2)) [.own b, .fr t.d, .no] (.nx [.own b, .fr t.d, .fr (.str sg)]) := by
      rcases hs with ⟨e, e2⟩ | ⟨e, e2⟩
      · rw [e2]
        exact ex_set (i := 2) (ev_ifT (ts_is kp (decide_eq_true e)) ev_str) (by decide)
      · rw [e2]
        exact ex_set (i := 2) (ev_ifF (ts_is kp (decide_eq_false (by rw [e]; decide))) ev_str) (by decide)
    obtain ⟨z1, l1', b1, hb1, lz1, w1, tt1, hR1⟩ := ht b u hb tu
    obtain ⟨g, b2, hb2, bl, eg⟩ := ev_gap (K := K) (ρ := [.own b1, .fr t.d, .fr (.str sg)]) hg hb1 rfl
    obtain ⟨g2, b3, hb3, bl2, eg2⟩ := ev_gap (K := K) (ρ := [.own b2, .fr t.d, .fr (.str sg)]) hg hb2 rfl
    obtain ⟨z2, l2', b4, hb4, lz2, w2, tt2, hR2⟩ := hm b3 v hb3 (trm_of tv)
    have lg1 := bl.2
    have lg2 := bl2.2
    have wz : Wk ((((z1 ++ g) ++ sg) ++ g2) ++ z2) (l1' ++ sg :: l2') := by
      have w := (((w1.gapR bl).wa wa).gapR bl2).wk w2
      rw [List.append_assoc] at w
      exact w
    have ix : ∀ {b : List D} {c2 : Cell} {j : Nat} {x : D}, [D.str s, u.d, v.d][j]? = some x → EvZ K (tOp (rIx K) (tVar 1) (tC (.int (j : Int)))) [.own b, .fr t.d, c2] [.own b, .fr t.d, c2] x := fun {b c2 j x} h => ev_ixT (i := (j : Int)) (ds := [.str s, u.d, v.d]) (ev_var (i := 1) (by rw [ed]; rfl)) ev_int (at_nat h)
    have eu : EvZ K (tCall (SpZ K Rt) [] E0 (tCons (tVar 0) (tCons (tOp (rIx K) (tVar 1) (tC (.int 1))) tNil))) [.own b, .fr t.d, .fr (.str sg)] [.own b1, .fr t.d, .fr (.str sg)] (.str z1) := ev_callB (ds := [u.d]) rfl (ag_cons (ix (j := 1) rfl) ag_nil) rfl hR1
    have evv : EvZ K (tCall (SpZ K Rm) [] E0 (tCons (tVar 0) (tCons (tOp (rIx K) (tVar 1) (tC (.int 2))) tNil))) [.own b3, .fr t.d, .fr (.str sg)] [.own b4, .fr t.d, .fr (.str sg)] (.str z2) := ev_callB (ds := [v.d]) rfl (ag_cons (ix (j := 2) rfl) ag_nil) rfl hR2
    refine ⟨(((z1 ++ g) ++ sg) ++ g2) ++ z2, l1' ++ sg :: l2', b4, hb4, by rw [len_cat, len_cat, len_cat, len_cat, l1]; omega, wz, con _ _ (tt1.mono (Nat.le_succ k)) tt2, rfl, _, .inl (ex_seqR (ex_ifT kor (ex_seq s1 (ex_ret (ev_catS (ev_catS (ev_catS (ev_catS eu eg (by omega)) (ev_var (i := 2) rfl) (by rw [len_cat]; omega)) eg2 (by rw [len_cat, len_cat]; omega)) evv (by rw [len_cat, len_cat, len_cat]; omega)))))), fin_box (ds := [t.d]) (by decide) rfl⟩
  have none : ∀ {s : Str} {r : List D}, t.d = .tup (.str s :: r) → s ≠ "plus" → s ≠ "less" → ExZ K [0] (tIfS (tOr (tTest (tOp rEq (tOp (rIx K) (tVar 1) (tC (.int 0))) (tC (.str "plus")))) (tTest (tOp rEq (tOp (rIx K) (tVar 1) (tC (.int 0))) (tC (.str "less"))))) (tSeq (tAsg (tIf (tTest (tOp rEq (tOp (rIx K) (tVar 1) (tC (.int 0))) (tC (.str "plus")))) (tC (.str "+")) (tC (.str "-"))) (gName 2))
      (tRet (tOp rCatS (tOp rCatS (tOp rCatS (tOp rCatS (tCall (SpZ K Rt) [] E0 (tCons (tVar 0) (tCons (tOp (rIx K) (tVar 1) (tC (.int 1))) tNil))) (tCall (SpZ K Rg) [] E0 (tCons (tVar 0) tNil))) (tVar 2)) (tCall (SpZ K Rg) [] E0 (tCons (tVar 0) tNil))) (tCall (SpZ K Rm) [] E0 (tCons (tVar 0) (tCons (tOp (rIx K) (tVar 1) (tC (.int 2))) tNil)))))) tNext) [.own b, .fr t.d, .no] (.nx [.own b, .fr t.d, .no]) := fun {s r} ed n1 n2 =>
    ex_ifF (ts_orF (ts_is (kind_is (rest := [.no]) ed) (decide_eq_false n1)) (ts_is (kind_is (rest := [.no]) ed) (decide_eq_false n2))) ex_next
  -- a term alone
  have alone : ∀ {s : Str} {r : List D}, t.d = .tup (.str s :: r) → s ≠ "plus" → s ≠ "less" → s ≠ "minus" → TrmOk k t → ∃ (z : Str) (l : List Str) (b' : List D), GoodBox b' ∧ z.length ≤ Lb (k + 1) ∧ Wk z l ∧ TT 2 (k + 1) t l ∧ RelOf K [0] (t__law_tree_text K Rg Rm Rt) 3 2 (.own b :: [t.d].map .fr) (.fr (.str z)) (.own b' :: [t.d].map .fr) := fun {s r} ed n1 n2 n3 tk => by
    obtain ⟨z, l, b1, hb1, lz, w, tt, hR⟩ := hm b t hb tk
    exact ⟨z, l, b1, hb1, by omega, w, .trm tt, rfl, _, .inl (ex_seq (none ed n1 n2) (ex_seq (ex_ifF (ts_is (kind_is (rest := [.no]) ed) (decide_eq_false n3)) ex_next) (ex_ret (ev_callB (ds := [t.d]) rfl (ag_cons (ev_var (i := 1) rfl) ag_nil) rfl hR)))), fin_box (ds := [t.d]) (by decide) rfl⟩
  cases t with
  | plus u v =>
    cases ok with
    | plus tu tv => exact two u v "plus" "+" rfl (.inl ⟨rfl, rfl⟩) wa_plus lp tu tv fun l m h1 h2 => .plus h1 h2
  | less u v =>
    cases ok with
    | less tu tv => exact two u v "less" "-" rfl (.inr ⟨rfl, rfl⟩) wa_minus lm tu tv fun l m h1 h2 => .less h1 h2
  | minus u =>
    cases ok with
    | minus tu =>
      obtain ⟨g, b1, hb1, bl, eg⟩ := ev_gap (K := K) (ρ := [.own b, .fr (Tr.minus u).d, .no]) hg hb rfl
      obtain ⟨z, l, b2, hb2, lz, w, tt, hR⟩ := hm b1 u hb1 (trm_of tu)
      have lg1 := bl.2
      exact ⟨("-" ++ g) ++ z, ("-" : Str) :: l, b2, hb2, by rw [len_cat, len_cat, lm]; omega, (WA.gapR bl wa_minus).w0.wk w, .minus tt, rfl, _, .inl (ex_seq (none (s := "minus") rfl (by decide) (by decide)) (ex_seqR (ex_ifT (ts_is (kind_is (rest := [.no]) (t := .minus u) (s := "minus") rfl) (by decide)) (ex_ret (ev_catS (ev_catS ev_str eg (by omega)) (ev_callB (ds := [u.d]) rfl (ag_cons (ev_ixT (i := 1) (ds := [.str "minus", u.d]) (ev_var (i := 1) rfl) ev_int (at_nat (j := 1) rfl)) ag_nil) rfl hR) (by rw [len_cat]; omega)))))), fin_box (ds := [(Tr.minus u).d]) (by decide) rfl⟩
  | times n u =>
    cases ok with
    | times hn tu => exact alone (s := "times") rfl (by decide) (by decide) (by decide) (.inl ⟨n, u, rfl, hn, .inl tu⟩)
  | sum cs =>
    cases ok with
    | sum h => exact alone (s := "sum") rfl (by decide) (by decide) (by decide) (.inr ⟨rfl, .inr ⟨cs, rfl, h⟩⟩)
theorem tx_none {R : Rel} : CTx 2 0 (Lb 0) (TrW 0) R := fun b t _ h => by cases h
end
end Pr
end Z

set_option Elab.async false
set_option linter.all false
set_option maxRecDepth 100000
set_option maxHeartbeats 2000000
/-! Law09: the law k09. -/
namespace Z
open PySem PySem.Spec PyProof.Rows L2
open Evl (Ex Ex.refl Ex.trans Ex.new ex_rd ex_l ex_t sq_of st_of fresh_back sz_of sz_lt)
namespace Pr
section
variable {K : PySem.W.Frag}
def CTreeU (i : Nat) (R : Rel) : Prop := ∀ k, k ≤ i → CTree k R
theorem tree_up {Rc Rd Rt : Rel} {i : Nat} (hd : Spec Rd PreDraw PostDraw) (hc : CCo Rc) (ht : CTreeU i Rt) : CTreeU (i + 1) (RelOf K [0] (t__law_tree K Rc Rd Rt) 9 3) := fun k hk => rel_tree hd hc fun j e => ht j (by omega)
theorem tree_0 {Rc Rd Rt : Rel} (hd : Spec Rd PreDraw PostDraw) (hc : CCo Rc) : CTreeU 0 (RelOf K [0] (t__law_tree K Rc Rd Rt) 9 3) := fun k hk => rel_tree hd hc fun j e => absurd hk (by omega)
theorem text_up {Rc Rd Rg Rt : Rel} {k : Nat} (hk : k ≤ 4) (hd : Spec Rd PreDraw PostDraw) (hg : CGap Rg) (hc : CCt Rc) (ht : CTx 2 k (Lb k) (TrW k) Rt) : CTx 2 (k + 1) (Lb (k + 1)) (TrW (k + 1)) (RelOf K [0] (t__law_tree_text K Rg (RelOf K [0] (t__law_term_text K (RelOf K [0] (t__law_factor_text K Rc Rd Rg Rt) 2 2) Rg) 2 2) Rt) 3 2) :=
  rel_tx hk hg (rel_tm hk hg (rel_fa hk hd hg hc ht)) ht
theorem TrW.mono {j k : Nat} {t : Tr} (h : TrW j t) (hk : j ≤ k) : TrW k t := by
  induction hk with
  | refl => exact h
  | step _ ih => exact ih.succ
theorem plain_tr {k : Nat} {t : Tr} (h : TrW k t) : Plain (k + 4) t.d := by
  induction h with
  | sum hs =>
    rename_i k cs
    refine .tup (fun d hd => ?_) (by show 2 ≤ 90000; decide)
    simp only [List.mem_cons, List.not_mem_nil, or_false] at hd
    rcases hd with rfl | rfl
    · exact .str _
    · refine .tup (fun d hd => ?_) (by rw [List.length_map]; have := hs.1; omega)
      obtain ⟨c, hc, rfl⟩ := List.mem_map.mp hd
      have cw := hs.2 c hc
      refine .tup (fun d hd => ?_) (by show 2 ≤ 90000; decide)
      simp only [List.mem_cons, List.not_mem_nil, or_false] at hd
      rcases hd with rfl | rfl
      · exact .str _
      · refine .tup (fun d hd => ?_) (by rw [ps_fin]; have := cw.2.1; omega)
        obtain ⟨x, _, rfl⟩ := List.mem_map.mp hd
        exact .str _
  | times hn _ ih =>
    refine .tup (fun d hd => ?_) (by show 3 ≤ 90000; decide)
    simp only [List.mem_cons, List.not_mem_nil, or_false] at hd
    rcases hd with rfl | rfl | rfl
    · exact .str _
    · exact .int _
    · exact ih
  | minus _ ih =>
    refine .tup (fun d hd => ?_) (by show 2 ≤ 90000; decide)
    simp only [List.mem_cons, List.not_mem_nil, or_false] at hd
    rcases hd with rfl | rfl
    · exact .str _
    · exact ih
  | plus _ _ i1 i2 =>
    refine .tup (fun d hd => ?_) (by show 3 ≤ 90000; decide)
    simp only [List.mem_cons, List.not_mem_nil, or_false] at hd
    rcases hd with rfl | rfl | rfl
    · exact .str _
    · exact i1
    · exact i2
  | less _ _ i1 i2 =>
    refine .tup (fun d hd => ?_) (by show 3 ≤ 90000; decide)
    simp only [List.mem_cons, List.not_mem_nil, or_false] at hd
    rcases hd with rfl | rfl | rfl
    · exact .str _
    · exact i1
    · exact i2
end
end Pr
namespace K09
open Pr
def b_law_1 (K : PySem.W.Frag) (R__law_box : Rel) (R__law_same : Rel) (R__law_tree : Rel) (R__law_tree_text : Rel) (R__law_wide : Rel) (R_read_expression : Rel) : TS :=
  (tSeq (tAsg (tCall (SpZ K R__law_tree) [] E0 (tCons (tCall (SpZ K R__law_box) [] E0 (tCons (tVar 0) (tCons (tOp rAddI (tC (.int 5)) (tVar 2)) tNil))) (tCons (tVar 1) (tCons (tOp rAddI (tC (.int 1)) (tVar 2)) tNil)))) (gName 3))
      (tSeq (tAsg (tCall (SpZ K R__law_tree_text) [] E0 (tCons (tCall (SpZ K R__law_box) [] E0 (tCons (tVar 0) (tCons (tOp rAddI (tC (.int 9)) (tVar 2)) tNil))) (tCons (tVar 3) tNil))) (gName 4))
      (tIfS (tAnd (tTest (tOp rLeI (tCB (rLenX K) (tCons (tVar 4) tNil)) (tC (.int 300)))) (tNot (tB (tCall (SpZ K R__law_same) [] E0 (tCons (tCall (SpZ K R_read_expression) [] E0 (tCons (tVar 4) tNil)) (tCons (tVar 3) tNil)))))) (tRet (tC (.bl false))) tNext)))
def t_law (K : PySem.W.Frag) (R__law_box : Rel) (R__law_same : Rel) (R__law_tree : Rel) (R__law_tree_text : Rel) (R__law_wide : Rel) (R_read_expression : Rel) : TS :=
  (tSeq (tAsg (tCall (SpZ K R__law_wide) [] E0 (tCons (tVar 0) (tCons (tC (.int 0)) (tCons (tC (.int 48)) tNil)))) (gName 1))
      (tSeq (tFor (iRng1 (tCons (tC (.int 3)) tNil)) (gName 2) (b_law_1 K R__law_box R__law_same R__law_tree R__law_tree_text R__law_wide R_read_expression))
      (tRet (tC (.bl true)))))

section
variable {K : PySem.W.Frag} {CF : Addr} {Rb Rs Rt Rx Rw Rr : Rel} {RXr : RelX}
theorem turn (hb : Spec Rb PreBox PostBox) (hs : Spec Rs (PreSame 8) PostSame) (ht : CTreeU 3 Rt) (hx : CTx 2 4 (Lb 4) (TrW 4) Rx) (hr : CRx CF Rr RXr) {ns : List Int} {ds : List Dm} (gd : GoodDs ds) (k : Nat) (hk : k < 3) (c3 c4 : Cell) :
    ∃ c3' c4', ExZ K [] (b_law_1 K Rb Rs Rt Rx Rw Rr) [.fr (.lst (ns.map .int)), .fr (dimsD ds), .fr (.int (k : Int)), c3, c4] (.nx [.fr (.lst (ns.map .int)), .fr (dimsD ds), .fr (.int (k : Int)), c3', c4']) := by
  obtain ⟨r5, cs5, hB5, rfl, b5, gb5, rfl⟩ := hb _ ⟨ns, 5 + k, rfl, by omega⟩
  obtain ⟨r9, cs9, hB9, rfl, b9, gb9, rfl⟩ := hb _ ⟨ns, 9 + k, rfl, by omega⟩
  obtain ⟨t, b5', tok, gb5', hT⟩ := ht (1 + k) (by omega) b5 ds gb5 gd
  have tw := (tok.w gd).mono (k := 4) (by omega)
  obtain ⟨z, l, b9', gb9', lz, w, tt, hX⟩ := hx b9 t gb9 tw
  have l4 : Lb 4 ≤ 30000 := Lb_le (Nat.le_refl _)
  have ei : ∀ (n : Nat) {ρ : Rho}, ρ[2]? = some (.fr (.int (k : Int))) → EvZ K (tOp rAddI (tC (.int (n : Int))) (tVar 2)) ρ ρ (.int ((n + k : Nat) : Int)) := fun n {ρ} h => ev_is (ev_add ev_int (ev_var (i := 2) h)) (by congr 1)
  have s1 : ExZ K [] (tAsg (tCall (SpZ K Rt) [] E0 (tCons (tCall (SpZ K Rb) [] E0 (tCons (tVar 0) (tCons (tOp rAddI (tC (.int 5)) (tVar 2)) tNil))) (tCons (tVar 1) (tCons (tOp rAddI (tC (.int 1)) (tVar 2)) tNil)))) (gName 3)) [.fr (.lst (ns.map .int)), .fr (dimsD ds), .fr (.int (k : Int)), c3, c4] (.nx [.fr (.lst (ns.map .int)), .fr (dimsD ds), .fr (.int (k : Int)), .fr t.d, c4]) :=
    ex_set (i := 3) (ev_callBR (ds := [dimsD ds, .int ((1 + k : Nat) : Int)]) (en_callF (ds := [.lst (ns.map .int), .int ((5 + k : Nat) : Int)]) (ag_cons (ev_var (i := 0) rfl) (ag_cons (ei 5 rfl) ag_nil)) hB5) .refl (ag_cons (ev_var (i := 1) rfl) (ag_cons (ei 1 rfl) ag_nil)) hT .refl) (by decide)
  have s2 : ExZ K [] (tAsg (tCall (SpZ K Rx) [] E0 (tCons (tCall (SpZ K Rb) [] E0 (tCons (tVar 0) (tCons (tOp rAddI (tC (.int 9)) (tVar 2)) tNil))) (tCons (tVar 3) tNil))) (gName 4)) [.fr (.lst (ns.map .int)), .fr (dimsD ds), .fr (.int (k : Int)), .fr t.d, c4] (.nx [.fr (.lst (ns.map .int)), .fr (dimsD ds), .fr (.int (k : Int)), .fr t.d, .fr (.str z)]) :=
    ex_set (i := 4) (ev_callBR (ds := [t.d]) (en_callF (ds := [.lst (ns.map .int), .int ((9 + k : Nat) : Int)]) (ag_cons (ev_var (i := 0) rfl) (ag_cons (ei 9 rfl) ag_nil)) hB9) .refl (ag_cons (ev_var (i := 3) rfl) ag_nil) hX .refl) (by decide)
  have t1 : TsZ K (tTest (tOp rLeI (tCB (rLenX K) (tCons (tVar 4) tNil)) (tC (.int 300)))) [.fr (.lst (ns.map .int)), .fr (dimsD ds), .fr (.int (k : Int)), .fr t.d, .fr (.str z)] [.fr (.lst (ns.map .int)), .fr (dimsD ds), .fr (.int (k : Int)), .fr t.d, .fr (.str z)] (decide ((z.length : Int) ≤ 300)) := ts_test (ev_le (ev_lenS (ev_var (i := 4) rfl) (by omega)) ev_int)
  by_cases q : z.length ≤ 300
  · have a := hr z (by omega)
    rw [tokS_of w, all_ok (tt.mono (by decide))] at a
    have a' : Rr [.fr (.str z)] (.fr t.d) [.fr (.str z)] := a
    have t2 := ts_same (K := K) hs (ρ := [.fr (.lst (ns.map .int)), .fr (dimsD ds), .fr (.int (k : Int)), .fr t.d, .fr (.str z)]) (ev_callF (X := E0) (ds := [.str z]) (ag_cons (ev_var (i := 4) rfl) ag_nil) a') (ev_var (i := 3) rfl) (plain_tr tw)
    exact ⟨_, _, ex_seq s1 (ex_seq s2 (ex_ifF (ts_andT (ts_is t1 (decide_eq_true (by omega))) t2) ex_next))⟩
  · exact ⟨_, _, ex_seq s1 (ex_seq s2 (ex_ifF (ts_andF (ts_is t1 (decide_eq_false (by omega)))) ex_next))⟩
theorem sem_law (hwd : CWide Rw) (hb : Spec Rb PreBox PostBox) (hs : Spec Rs (PreSame 8) PostSame) (ht : CTreeU 3 Rt) (hx : CTx 2 4 (Lb 4) (TrW 4) Rx) (hr : CRx CF Rr RXr) (ns : List Int) :
    RelOf K [] (t_law K Rb Rs Rt Rx Rw Rr) 5 1 [.fr (.lst (ns.map .int))] (.fr (.bl true)) [.fr (.lst (ns.map .int))] := by
  obtain ⟨ds, gd, _, hR⟩ := hwd ns 0 48 (by decide) (by decide) (by decide)
  have loop : ∀ (n m : Nat) (c2 c3 c4 : Cell), m + n ≤ 3 → ∃ c2' c3' c4', LoopZ K [] (gName 2) (b_law_1 K Rb Rs Rt Rx Rw Rr) [2] (rangeD (m : Int) n) [.fr (.lst (ns.map .int)), .fr (dimsD ds), c2, c3, c4] (.nx [.fr (.lst (ns.map .int)), .fr (dimsD ds), c2', c3', c4']) := by
    intro n
    induction n with
    | zero => exact fun m c2 c3 c4 _ => ⟨c2, c3, c4, .nil⟩
    | succ n ih =>
      intro m c2 c3 c4 h
      rw [rangeD_cons]
      obtain ⟨c3', c4', s⟩ := turn (K := K) (Rw := Rw) hb hs ht hx hr (ns := ns) gd m (by omega) c3 c4
      obtain ⟨d2, d3, d4, q⟩ := ih (m + 1) (.fr (.int (m : Int))) c3' c4' (by omega)
      exact ⟨d2, d3, d4, .step tg_name s q⟩
  obtain ⟨c2, c3, c4, q⟩ := loop 3 0 .no .no .no (by decide)
  exact rel_rt (ds := [.lst (ns.map .int)]) ⟨_, ex_seq (ex_set (i := 1) (ev_callF (ds := [.lst (ns.map .int), .int 0, .int 48]) (ag_cons (ev_var (i := 0) rfl) (ag_cons ev_int (ag_cons ev_int ag_nil))) hR) (by decide)) (ex_seq (ex_for (it_range1 (n := 3) (ag_cons ev_int ag_nil) ⟨by decide, by decide⟩) q (by decide)) (ex_ret ev_bl))⟩
end
end K09
end Z

set_option Elab.async false
set_option linter.all false
set_option maxRecDepth 100000
set_option maxHeartbeats 4000000
namespace Z
open PySem PySem.Spec PyProof.Rows L2
theorem na_reader {K : PySem.W.Frag} {C : Addr} (h0 : NoAttr K C "_tokens") (h1 : NoAttr K C "_read") (h2 : NoAttr K C "_held") : ∀ f ∈ rdNames, NoAttr K C f := fun f hf => by
  simp only [rdNames, List.mem_cons, List.not_mem_nil, or_false] at hf
  rcases hf with rfl | rfl | rfl <;> assumption
def topS (i : Nat) : Stmt := PySem.Challenge.pw_cubesums_k09_expressions_read.main.body.getD i (.Pass ⟨0, 0, 0, 0⟩)
abbrev s_is_numeral : Stmt := topS 5
theorem sc_is_numeral : FnScope ["text", "sign"] ["text"] (defScope s_is_numeral) := ⟨rfl, rfl, rfl, by decide +kernel, rfl, by decide +kernel, by decide +kernel⟩
abbrev s_is_word : Stmt := topS 10
theorem sc_is_word : FnScope ["text", "letter"] ["text"] (defScope s_is_word) := ⟨rfl, rfl, rfl, by decide +kernel, rfl, by decide +kernel, by decide +kernel⟩
abbrev s__run_of : Stmt := topS 15
theorem sc__run_of : FnScope ["sign"] ["sign"] (defScope s__run_of) := ⟨rfl, rfl, rfl, by decide +kernel, rfl, by decide +kernel, by decide +kernel⟩
abbrev s_tokens : Stmt := topS 14
theorem sc_tokens : FnScope ["text", "found", "run", "sign", "kind"] ["text"] (defScope s_tokens) := ⟨rfl, rfl, rfl, by decide +kernel, rfl, by decide +kernel, by decide +kernel⟩
abbrev s__is_number : Stmt := topS 17
theorem sc__is_number : FnScope ["token"] ["token"] (defScope s__is_number) := ⟨rfl, rfl, rfl, by decide +kernel, rfl, by decide +kernel, by decide +kernel⟩
abbrev s_FaultyText___init__ : Stmt := inClass (topS 2) 0
theorem sc_FaultyText___init__ : FnScope ["self", "at"] ["self", "at"] (defScope s_FaultyText___init__) := ⟨rfl, rfl, rfl, by decide +kernel, rfl, by decide +kernel, by decide +kernel⟩
abbrev s_Reader___init__ : Stmt := inClass (topS 18) 0
theorem sc_Reader___init__ : FnScope ["self", "found"] ["self", "found"] (defScope s_Reader___init__) := ⟨rfl, rfl, rfl, by decide +kernel, rfl, by decide +kernel, by decide +kernel⟩
abbrev s_Reader__peek : Stmt := inClass (topS 18) 1
theorem sc_Reader__peek : FnScope ["self"] ["self"] (defScope s_Reader__peek) := ⟨rfl, rfl, rfl, by decide +kernel, rfl, by decide +kernel, by decide +kernel⟩
abbrev s_Reader__take : Stmt := inClass (topS 18) 3
theorem sc_Reader__take : FnScope ["self", "token"] ["self"] (defScope s_Reader__take) := ⟨rfl, rfl, rfl, by decide +kernel, rfl, by decide +kernel, by decide +kernel⟩
abbrev s_Reader__skip : Stmt := inClass (topS 18) 4
theorem sc_Reader__skip : FnScope ["self", "token"] ["self", "token"] (defScope s_Reader__skip) := ⟨rfl, rfl, rfl, by decide +kernel, rfl, by decide +kernel, by decide +kernel⟩
abbrev s_Reader__refuse : Stmt := inClass (topS 18) 2
theorem sc_Reader__refuse : FnScope ["self"] ["self"] (defScope s_Reader__refuse) := ⟨rfl, rfl, rfl, by decide +kernel, rfl, by decide +kernel, by decide +kernel⟩
abbrev s_Reader__expect : Stmt := inClass (topS 18) 5
theorem sc_Reader__expect : FnScope ["self", "token"] ["self", "token"] (defScope s_Reader__expect) := ⟨rfl, rfl, rfl, by decide +kernel, rfl, by decide +kernel, by decide +kernel⟩
abbrev s_Reader__word : Stmt := inClass (topS 18) 6
theorem sc_Reader__word : FnScope ["self"] ["self"] (defScope s_Reader__word) := ⟨rfl, rfl, rfl, by decide +kernel, rfl, by decide +kernel, by decide +kernel⟩
abbrev s_Reader_finish : Stmt := inClass (topS 18) 7
theorem sc_Reader_finish : FnScope ["self"] ["self"] (defScope s_Reader_finish) := ⟨rfl, rfl, rfl, by decide +kernel, rfl, by decide +kernel, by decide +kernel⟩
abbrev s_Reader__path : Stmt := inClass (topS 18) 13
theorem sc_Reader__path : FnScope ["self", "words"] ["self"] (defScope s_Reader__path) := ⟨rfl, rfl, rfl, by decide +kernel, rfl, by decide +kernel, by decide +kernel⟩
abbrev s_Reader__condition : Stmt := inClass (topS 18) 12
theorem sc_Reader__condition : FnScope ["self", "name", "paths"] ["self"] (defScope s_Reader__condition) := ⟨rfl, rfl, rfl, by decide +kernel, rfl, by decide +kernel, by decide +kernel⟩
abbrev s_Reader__conditions : Stmt := inClass (topS 18) 11
theorem sc_Reader__conditions : FnScope ["self", "found"] ["self"] (defScope s_Reader__conditions) := ⟨rfl, rfl, rfl, by decide +kernel, rfl, by decide +kernel, by decide +kernel⟩
abbrev s_Reader__factor : Stmt := inClass (topS 18) 10
theorem sc_Reader__factor : FnScope ["self", "tree"] ["self"] (defScope s_Reader__factor) := ⟨rfl, rfl, rfl, by decide +kernel, rfl, by decide +kernel, by decide +kernel⟩
abbrev s_Reader__term : Stmt := inClass (topS 18) 9
theorem sc_Reader__term : FnScope ["self", "number"] ["self"] (defScope s_Reader__term) := ⟨rfl, rfl, rfl, by decide +kernel, rfl, by decide +kernel, by decide +kernel⟩
abbrev s_Reader_expression : Stmt := inClass (topS 18) 8
theorem sc_Reader_expression : FnScope ["self", "tree", "kind"] ["self"] (defScope s_Reader_expression) := ⟨rfl, rfl, rfl, by decide +kernel, rfl, by decide +kernel, by decide +kernel⟩
abbrev s_read_expression : Stmt := topS 16
theorem sc_read_expression : FnScope ["text", "reader", "tree"] ["text"] (defScope s_read_expression) := ⟨rfl, rfl, rfl, by decide +kernel, rfl, by decide +kernel, by decide +kernel⟩
abbrev s__law_cell : Stmt := topS 20
theorem sc__law_cell : FnScope ["script", "k"] ["script", "k"] (defScope s__law_cell) := ⟨rfl, rfl, rfl, by decide +kernel, rfl, by decide +kernel, by decide +kernel⟩
abbrev s__law_digits : Stmt := topS 21
theorem sc__law_digits : FnScope ["cell", "at", "digits", "turn", "seed"] ["cell", "at"] (defScope s__law_digits) := ⟨rfl, rfl, rfl, by decide +kernel, rfl, by decide +kernel, by decide +kernel⟩
abbrev s__law_box : Stmt := topS 22
theorem sc__law_box : FnScope ["script", "at"] ["script", "at"] (defScope s__law_box) := ⟨rfl, rfl, rfl, by decide +kernel, rfl, by decide +kernel, by decide +kernel⟩
abbrev s__law_draw : Stmt := topS 23
theorem sc__law_draw : FnScope ["box", "many", "at"] ["box", "many"] (defScope s__law_draw) := ⟨rfl, rfl, rfl, by decide +kernel, rfl, by decide +kernel, by decide +kernel⟩
abbrev s__law_is_integer : Stmt := topS 24
theorem sc__law_is_integer : FnScope ["actual"] ["actual"] (defScope s__law_is_integer) := ⟨rfl, rfl, rfl, by decide +kernel, rfl, by decide +kernel, by decide +kernel⟩
abbrev s__law_same : Stmt := topS 25
theorem sc__law_same : FnScope ["actual", "due", "at"] ["actual", "due"] (defScope s__law_same) := ⟨rfl, rfl, rfl, by decide +kernel, rfl, by decide +kernel, by decide +kernel⟩
abbrev s__law_word : Stmt := topS 26
theorem sc__law_word : FnScope ["box", "taken", "marks", "turn", "word", "k", "mark"] ["box", "taken"] (defScope s__law_word) := ⟨rfl, rfl, rfl, by decide +kernel, rfl, by decide +kernel, by decide +kernel⟩
abbrev s__law_leaves : Stmt := topS 27
theorem sc__law_leaves : FnScope ["box", "depth", "many", "pools", "level", "words", "k", "paths", "turn", "path", "word", "pool"] ["box", "depth", "many"] (defScope s__law_leaves) := ⟨rfl, rfl, rfl, by decide +kernel, rfl, by decide +kernel, by decide +kernel⟩
abbrev s__law_prefix : Stmt := topS 28
theorem sc__law_prefix : FnScope ["path", "level"] ["path", "level"] (defScope s__law_prefix) := ⟨rfl, rfl, rfl, by decide +kernel, rfl, by decide +kernel, by decide +kernel⟩
abbrev s__law_plain_leaves : Stmt := topS 30
theorem sc__law_plain_leaves : FnScope ["depth", "many", "marks", "heads", "others", "rows", "k"] ["depth", "many"] (defScope s__law_plain_leaves) := ⟨rfl, rfl, rfl, by decide +kernel, rfl, by decide +kernel, by decide +kernel⟩
abbrev s__law_wide : Stmt := topS 29
theorem sc__law_wide : FnScope ["script", "first", "cells_left", "start", "found", "names", "k", "box", "depth", "many", "plain", "leaves", "name"] ["script", "first", "cells_left"] (defScope s__law_wide) := ⟨rfl, rfl, rfl, by decide +kernel, rfl, by decide +kernel, by decide +kernel⟩
abbrev s__law_level : Stmt := topS 31
theorem sc__law_level : FnScope ["path"] ["path"] (defScope s__law_level) := ⟨rfl, rfl, rfl, by decide +kernel, rfl, by decide +kernel, by decide +kernel⟩
abbrev s__law_gap : Stmt := topS 32
theorem sc__law_gap : FnScope ["box"] ["box"] (defScope s__law_gap) := ⟨rfl, rfl, rfl, by decide +kernel, rfl, by decide +kernel, by decide +kernel⟩
abbrev s__law_a_condition : Stmt := topS 33
theorem sc__law_a_condition : FnScope ["box", "dimensions", "dimension", "paths", "k", "leaf"] ["box", "dimensions"] (defScope s__law_a_condition) := ⟨rfl, rfl, rfl, by decide +kernel, rfl, by decide +kernel, by decide +kernel⟩
abbrev s__law_tree : Stmt := topS 34
theorem sc__law_tree : FnScope ["box", "dimensions", "depth", "kind", "rows", "k", "row", "first", "other"] ["box", "dimensions", "depth"] (defScope s__law_tree) := ⟨rfl, rfl, rfl, by decide +kernel, rfl, by decide +kernel, by decide +kernel⟩
abbrev s__law_conditions_text : Stmt := topS 35
theorem sc__law_conditions_text : FnScope ["box", "conditions", "rows", "row", "gap", "path"] ["box", "conditions"] (defScope s__law_conditions_text) := ⟨rfl, rfl, rfl, by decide +kernel, rfl, by decide +kernel, by decide +kernel⟩
abbrev s__law_factor_text : Stmt := topS 36
theorem sc__law_factor_text : FnScope ["box", "tree"] ["box", "tree"] (defScope s__law_factor_text) := ⟨rfl, rfl, rfl, by decide +kernel, rfl, by decide +kernel, by decide +kernel⟩
abbrev s__law_term_text : Stmt := topS 37
theorem sc__law_term_text : FnScope ["box", "tree"] ["box", "tree"] (defScope s__law_term_text) := ⟨rfl, rfl, rfl, by decide +kernel, rfl, by decide +kernel, by decide +kernel⟩
abbrev s__law_tree_text : Stmt := topS 38
theorem sc__law_tree_text : FnScope ["box", "tree", "sign"] ["box", "tree"] (defScope s__law_tree_text) := ⟨rfl, rfl, rfl, by decide +kernel, rfl, by decide +kernel, by decide +kernel⟩
abbrev s_law : Stmt := topS 39
theorem sc_law : FnScope ["script", "dimensions", "k", "tree", "text"] ["script"] (defScope s_law) := ⟨rfl, rfl, rfl, by decide +kernel, rfl, by decide +kernel, by decide +kernel⟩
structure Top (K : PySem.W.Frag) (mg : Str → Option Value) (c_DIGITS : V) (c_GREATEST_NUMBER : V) (c_KEPT_WORDS : V) (c_LETTERS : V) (c_LONGEST_WORD : V) (c_MOST_OPEN : V) (C_Reader : Addr) (C_CubeError : Addr) (C_FaultyText : Addr) : Prop where
  n_all : mg "all" = none
  n_bool : mg "bool" = none
  n_int : mg "int" = none
  n_isinstance : mg "isinstance" = none
  n_len : mg "len" = none
  n_min : mg "min" = none
  n_range : mg "range" = none
  n_sorted : mg "sorted" = none
  n_str : mg "str" = none
  n_tuple : mg "tuple" = none
  c_DIGITS : ∃ u, mg "DIGITS" = some u ∧ RelV c_DIGITS u
  c_GREATEST_NUMBER : ∃ u, mg "GREATEST_NUMBER" = some u ∧ RelV c_GREATEST_NUMBER u
  c_KEPT_WORDS : ∃ u, mg "KEPT_WORDS" = some u ∧ RelV c_KEPT_WORDS u
  c_LETTERS : ∃ u, mg "LETTERS" = some u ∧ RelV c_LETTERS u
  c_LONGEST_WORD : ∃ u, mg "LONGEST_WORD" = some u ∧ RelV c_LONGEST_WORD u
  c_MOST_OPEN : ∃ u, mg "MOST_OPEN" = some u ∧ RelV c_MOST_OPEN u
  cls_Reader : Cls K C_Reader
  at_Reader : mg "Reader" = some (.ref C_Reader)
  na_Reader : ∀ f ∈ rdNames, NoAttr K C_Reader f
  at_CubeError : mg "CubeError" = some (.ref C_CubeError)
  at_FaultyText : mg "FaultyText" = some (.ref C_FaultyText)
  xi_FaultyText : ExcC K C_FaultyText
  xf_FaultyText : XfC K C_FaultyText
  no_FaultyText_at : PySem.W.findIn K (.ref C_FaultyText) "at" = some none
  to_FaultyText : OexC K C_FaultyText
  f_is_numeral : ∃ (f : Addr) (fd : FuncData), Fun K "is_numeral" "is_numeral" s_is_numeral f fd ∧ mg "is_numeral" = some (.ref f)
  f_is_word : ∃ (f : Addr) (fd : FuncData), Fun K "is_word" "is_word" s_is_word f fd ∧ mg "is_word" = some (.ref f)
  f__run_of : ∃ (f : Addr) (fd : FuncData), Fun K "_run_of" "_run_of" s__run_of f fd ∧ mg "_run_of" = some (.ref f)
  f_tokens : ∃ (f : Addr) (fd : FuncData), Fun K "tokens" "tokens" s_tokens f fd ∧ mg "tokens" = some (.ref f)
  f__is_number : ∃ (f : Addr) (fd : FuncData), Fun K "_is_number" "_is_number" s__is_number f fd ∧ mg "_is_number" = some (.ref f)
  f_FaultyText___init__ : ∃ (f : Addr) (fd : FuncData), Fun K "__init__" "FaultyText.__init__" s_FaultyText___init__ f fd ∧ PySem.W.findIn K (.ref C_FaultyText) "__init__" = some (some (.ref f)) ∧ PySem.W.typeIn K (.ref f) = some (.type "function")
  f_Reader___init__ : ∃ (f : Addr) (fd : FuncData), Fun K "__init__" "Reader.__init__" s_Reader___init__ f fd ∧ Mk K C_Reader f
  f_Reader__peek : ∃ (f : Addr) (fd : FuncData), Fun K "_peek" "Reader._peek" s_Reader__peek f fd ∧ Meth K C_Reader "_peek" f
  f_Reader__take : ∃ (f : Addr) (fd : FuncData), Fun K "_take" "Reader._take" s_Reader__take f fd ∧ Meth K C_Reader "_take" f
  f_Reader__skip : ∃ (f : Addr) (fd : FuncData), Fun K "_skip" "Reader._skip" s_Reader__skip f fd ∧ Meth K C_Reader "_skip" f
  f_Reader__refuse : ∃ (f : Addr) (fd : FuncData), Fun K "_refuse" "Reader._refuse" s_Reader__refuse f fd ∧ Meth K C_Reader "_refuse" f
  f_Reader__expect : ∃ (f : Addr) (fd : FuncData), Fun K "_expect" "Reader._expect" s_Reader__expect f fd ∧ Meth K C_Reader "_expect" f
  f_Reader__word : ∃ (f : Addr) (fd : FuncData), Fun K "_word" "Reader._word" s_Reader__word f fd ∧ Meth K C_Reader "_word" f
  f_Reader_finish : ∃ (f : Addr) (fd : FuncData), Fun K "finish" "Reader.finish" s_Reader_finish f fd ∧ Meth K C_Reader "finish" f
  f_Reader__path : ∃ (f : Addr) (fd : FuncData), Fun K "_path" "Reader._path" s_Reader__path f fd ∧ Meth K C_Reader "_path" f
  f_Reader__condition : ∃ (f : Addr) (fd : FuncData), Fun K "_condition" "Reader._condition" s_Reader__condition f fd ∧ Meth K C_Reader "_condition" f
  f_Reader__conditions : ∃ (f : Addr) (fd : FuncData), Fun K "_conditions" "Reader._conditions" s_Reader__conditions f fd ∧ Meth K C_Reader "_conditions" f
  f_Reader__factor : ∃ (f : Addr) (fd : FuncData), Fun K "_factor" "Reader._factor" s_Reader__factor f fd ∧ Meth K C_Reader "_factor" f
  f_Reader__term : ∃ (f : Addr) (fd : FuncData), Fun K "_term" "Reader._term" s_Reader__term f fd ∧ Meth K C_Reader "_term" f
  f_Reader_expression : ∃ (f : Addr) (fd : FuncData), Fun K "expression" "Reader.expression" s_Reader_expression f fd ∧ Meth K C_Reader "expression" f
  f_read_expression : ∃ (f : Addr) (fd : FuncData), Fun K "read_expression" "read_expression" s_read_expression f fd ∧ mg "read_expression" = some (.ref f)
  f__law_cell : ∃ (f : Addr) (fd : FuncData), Fun K "_law_cell" "_law_cell" s__law_cell f fd ∧ mg "_law_cell" = some (.ref f)
  f__law_digits : ∃ (f : Addr) (fd : FuncData), Fun K "_law_digits" "_law_digits" s__law_digits f fd ∧ mg "_law_digits" = some (.ref f)
  f__law_box : ∃ (f : Addr) (fd : FuncData), Fun K "_law_box" "_law_box" s__law_box f fd ∧ mg "_law_box" = some (.ref f)
  f__law_draw : ∃ (f : Addr) (fd : FuncData), Fun K "_law_draw" "_law_draw" s__law_draw f fd ∧ mg "_law_draw" = some (.ref f)
  f__law_is_integer : ∃ (f : Addr) (fd : FuncData), Fun K "_law_is_integer" "_law_is_integer" s__law_is_integer f fd ∧ mg "_law_is_integer" = some (.ref f)
  f__law_same : ∃ (f : Addr) (fd : FuncData), Fun K "_law_same" "_law_same" s__law_same f fd ∧ mg "_law_same" = some (.ref f)
  f__law_word : ∃ (f : Addr) (fd : FuncData), Fun K "_law_word" "_law_word" s__law_word f fd ∧ mg "_law_word" = some (.ref f)
  f__law_leaves : ∃ (f : Addr) (fd : FuncData), Fun K "_law_leaves" "_law_leaves" s__law_leaves f fd ∧ mg "_law_leaves" = some (.ref f)
  f__law_prefix : ∃ (f : Addr) (fd : FuncData), Fun K "_law_prefix" "_law_prefix" s__law_prefix f fd ∧ mg "_law_prefix" = some (.ref f)
  f__law_plain_leaves : ∃ (f : Addr) (fd : FuncData), Fun K "_law_plain_leaves" "_law_plain_leaves" s__law_plain_leaves f fd ∧ mg "_law_plain_leaves" = some (.ref f)
  f__law_wide : ∃ (f : Addr) (fd : FuncData), Fun K "_law_wide" "_law_wide" s__law_wide f fd ∧ mg "_law_wide" = some (.ref f)
  f__law_level : ∃ (f : Addr) (fd : FuncData), Fun K "_law_level" "_law_level" s__law_level f fd ∧ mg "_law_level" = some (.ref f)
  f__law_gap : ∃ (f : Addr) (fd : FuncData), Fun K "_law_gap" "_law_gap" s__law_gap f fd ∧ mg "_law_gap" = some (.ref f)
  f__law_a_condition : ∃ (f : Addr) (fd : FuncData), Fun K "_law_a_condition" "_law_a_condition" s__law_a_condition f fd ∧ mg "_law_a_condition" = some (.ref f)
  f__law_tree : ∃ (f : Addr) (fd : FuncData), Fun K "_law_tree" "_law_tree" s__law_tree f fd ∧ mg "_law_tree" = some (.ref f)
  f__law_conditions_text : ∃ (f : Addr) (fd : FuncData), Fun K "_law_conditions_text" "_law_conditions_text" s__law_conditions_text f fd ∧ mg "_law_conditions_text" = some (.ref f)
  f__law_factor_text : ∃ (f : Addr) (fd : FuncData), Fun K "_law_factor_text" "_law_factor_text" s__law_factor_text f fd ∧ mg "_law_factor_text" = some (.ref f)
  f__law_term_text : ∃ (f : Addr) (fd : FuncData), Fun K "_law_term_text" "_law_term_text" s__law_term_text f fd ∧ mg "_law_term_text" = some (.ref f)
  f__law_tree_text : ∃ (f : Addr) (fd : FuncData), Fun K "_law_tree_text" "_law_tree_text" s__law_tree_text f fd ∧ mg "_law_tree_text" = some (.ref f)
  f_law : ∃ (f : Addr) (fd : FuncData), Fun K "law" "law" s_law f fd ∧ mg "law" = some (.ref f)
  nb : NoBook K
section
variable {P : Program} {w : World} {K : PySem.W.Frag} {mg : Str → Option Value} {base : Heap} {c_DIGITS : V} {c_GREATEST_NUMBER : V} {c_KEPT_WORDS : V} {c_LETTERS : V} {c_LONGEST_WORD : V} {c_MOST_OPEN : V} {C_Reader : Addr} {C_CubeError : Addr} {C_FaultyText : Addr}
theorem ok_is_numeral (T : Top K mg c_DIGITS c_GREATEST_NUMBER c_KEPT_WORDS c_LETTERS c_LONGEST_WORD c_MOST_OPEN C_Reader C_CubeError C_FaultyText) : Zdef P w K mg base 1 "is_numeral" ["text"] (RelOf K [] (t_is_numeral K c_DIGITS) 2 1) := by
  obtain ⟨f, fd, F, hm⟩ := T.f_is_numeral
  exact def_z F hm sc_is_numeral rfl rfl (F.binds fun _ _ _ _ _ _ us hl => match us, hl with | [_], _ => rfl) fun cdv A outer s H E hr =>
    (pss_cons (ps_if (PW.pt (pw_or (pt_cmpR op_eq (pv 0) pe_str (nomark _)) (pw_or1 (pt_not (pt_val (pe_callB (cr_all rfl) (by rfl) T.n_all (by decide +kernel) (pa_cons (pe_lc (own := [("sign", 1)]) (g := (gName 1)) (tt := tYes) rfl sc_is_numeral.nd (pi_str (pv 0)) (blkOk_by (N := ["text", "sign"]) (sc := defScope s_is_numeral) (by decide +kernel)) (fun _ _ _ _ _ => (pg_name (i := 1) sc_is_numeral.nd rfl (Or.inl rfl))) (fun _ _ _ _ _ => pts_nil) (fun _ _ _ _ _ => (pe_cmpR op_in_sign (pv 1) (pe_glob (by rfl) (T.c_DIGITS).choose_spec.1 (T.c_DIGITS).choose_spec.2) (by with_unfolding_all rfl)))) pa_nil))))))) (pss_one (ps_ret pe_bl)) pss_nil)
      (pss_one (ps_ret (pe_or (pe_cmpR op_eq (pv 0) pe_str (nomark _)) (pe_one (pe_cmpR op_ne (pe_ix ix_seq (pv 0) pe_int (fun _ _ => rfl)) pe_str (nomark _)))))))
theorem ok_is_word (T : Top K mg c_DIGITS c_GREATEST_NUMBER c_KEPT_WORDS c_LETTERS c_LONGEST_WORD c_MOST_OPEN C_Reader C_CubeError C_FaultyText) : Zdef P w K mg base 1 "is_word" ["text"] (RelOf K [] (t_is_word K c_KEPT_WORDS c_LETTERS c_LONGEST_WORD) 2 1) := by
  obtain ⟨f, fd, F, hm⟩ := T.f_is_word
  exact def_z F hm sc_is_word rfl rfl (F.binds fun _ _ _ _ _ _ us hl => match us, hl with | [_], _ => rfl) fun cdv A outer s H E hr =>
    (pss_cons (ps_if (PW.pt (pw_or (pt_cmpR op_in_seq (pv 0) (pe_glob (by rfl) (T.c_KEPT_WORDS).choose_spec.1 (T.c_KEPT_WORDS).choose_spec.2) (by with_unfolding_all rfl)) (pw_or1 (pt_not (pt_chain op_le op_le pe_int (pe_callB call_len (by rfl) T.n_len (by decide +kernel) (pa_cons (pv 0) pa_nil)) (pe_glob (by rfl) (T.c_LONGEST_WORD).choose_spec.1 (T.c_LONGEST_WORD).choose_spec.2)))))) (pss_one (ps_ret pe_bl)) pss_nil)
      (pss_one (ps_ret (pe_callB (cr_all rfl) (by rfl) T.n_all (by decide +kernel) (pa_cons (pe_lc (own := [("letter", 1)]) (g := (gName 1)) (tt := tYes) rfl sc_is_word.nd (pi_str (pv 0)) (blkOk_by (N := ["text", "letter"]) (sc := defScope s_is_word) (by decide +kernel)) (fun _ _ _ _ _ => (pg_name (i := 1) sc_is_word.nd rfl (Or.inl rfl))) (fun _ _ _ _ _ => pts_nil) (fun _ _ _ _ _ => (pe_cmpR op_in_sign (pv 1) (pe_glob (by rfl) (T.c_LETTERS).choose_spec.1 (T.c_LETTERS).choose_spec.2) (by with_unfolding_all rfl)))) pa_nil)))))
theorem ok__run_of (T : Top K mg c_DIGITS c_GREATEST_NUMBER c_KEPT_WORDS c_LETTERS c_LONGEST_WORD c_MOST_OPEN C_Reader C_CubeError C_FaultyText) : Zdef P w K mg base 1 "_run_of" ["sign"] (RelOf K [] (t__run_of K c_DIGITS c_LETTERS) 1 1) := by
  obtain ⟨f, fd, F, hm⟩ := T.f__run_of
  exact def_z F hm sc__run_of rfl rfl (F.binds fun _ _ _ _ _ _ us hl => match us, hl with | [_], _ => rfl) fun cdv A outer s H E hr =>
    (pss_cons (ps_if (pt_cmpR op_in_sign (pv 0) (pe_glob (by rfl) (T.c_LETTERS).choose_spec.1 (T.c_LETTERS).choose_spec.2) (by with_unfolding_all rfl)) (pss_one (ps_ret (pe_glob (by rfl) (T.c_LETTERS).choose_spec.1 (T.c_LETTERS).choose_spec.2))) pss_nil)
      (pss_one (ps_ret (pe_ifExp (pt_cmpR op_in_sign (pv 0) (pe_glob (by rfl) (T.c_DIGITS).choose_spec.1 (T.c_DIGITS).choose_spec.2) (by with_unfolding_all rfl)) (pe_glob (by rfl) (T.c_DIGITS).choose_spec.1 (T.c_DIGITS).choose_spec.2) pe_str))))
theorem ok_tokens (T : Top K mg c_DIGITS c_GREATEST_NUMBER c_KEPT_WORDS c_LETTERS c_LONGEST_WORD c_MOST_OPEN C_Reader C_CubeError C_FaultyText) {R__run_of : Rel} (g__run_of : Zdef P w K mg base 1 "_run_of" ["sign"] R__run_of) : Zdef P w K mg base 2 "tokens" ["text"] (RelOf K [] (t_tokens K R__run_of) 5 1) := by
  obtain ⟨f, fd, F, hm⟩ := T.f_tokens
  exact def_z F hm sc_tokens rfl rfl (F.binds fun _ _ _ _ _ _ us hl => match us, hl with | [_], _ => rfl) fun cdv A outer s H E hr =>
    (pss_cons (ps_set (i := 1) sc_tokens.nd rfl (Or.inl rfl) (pe_lst pa_nil))
      (pss_cons (ps_set (i := 2) sc_tokens.nd rfl (Or.inl rfl) pe_str)
      (pss_cons (ps_for PassesOwn.never rfl (pi_str (pv 0)) (pg_name (i := 3) sc_tokens.nd rfl (Or.inl rfl)) (pss_cons (ps_set (i := 4) sc_tokens.nd rfl (Or.inl rfl) (pe_callZ g__run_of hr (by omega) (by rfl) (pa_cons (pv 3) pa_nil)))
      (pss_cons (ps_if (PW.pt (pw_and (pt_truth (pv 4) (by intro _; rfl)) (pw_and1 (pt_cmpR op_eq (pv 4) (pv 2) (nomark _))))) (pss_one (ps_asg (pe_op op_add_str (pe_ix ix_seq (pv 1) (pe_un un_neg pe_int) (fun _ _ => rfl)) (pv 3)) (pg_sub (pv 1) (pe_un un_neg pe_int) set_list))) (pss_one (ps_if (pt_cmpR op_ne (pv 3) pe_str (nomark _)) (pss_one (ps_expr (pe_bm PySem.F.plainAttrs_list PySem.F.slot_list_append PySem.F.type_list_append mt_append (pv 1) (pa_cons (pv 3) pa_nil)))) pss_nil)))
      (pss_one (ps_set (i := 2) sc_tokens.nd rfl (Or.inl rfl) (pv 4))))))
      (pss_one (ps_ret (pe_callTy call_tuple_of (by rfl) T.n_tuple (by decide +kernel) (pa_cons (pv 1) pa_nil)))))))
theorem ok__is_number (T : Top K mg c_DIGITS c_GREATEST_NUMBER c_KEPT_WORDS c_LETTERS c_LONGEST_WORD c_MOST_OPEN C_Reader C_CubeError C_FaultyText) {R_is_numeral : Rel} (g_is_numeral : Zdef P w K mg base 1 "is_numeral" ["text"] R_is_numeral) : Zdef P w K mg base 2 "_is_number" ["token"] (RelOf K [] (Pr.t__is_number K R_is_numeral c_GREATEST_NUMBER) 1 1) := by
  obtain ⟨f, fd, F, hm⟩ := T.f__is_number
  exact def_z F hm sc__is_number rfl rfl (F.binds fun _ _ _ _ _ _ us hl => match us, hl with | [_], _ => rfl) fun cdv A outer s H E hr =>
    (pss_one (ps_ret (pe_and (pe_callZ g_is_numeral hr (by omega) (by rfl) (pa_cons (pv 0) pa_nil)) (pe_and (pe_cmpR op_le (pe_callB call_len (by rfl) T.n_len (by decide +kernel) (pa_cons (pv 0) pa_nil)) (pe_callB call_len (by rfl) T.n_len (by decide +kernel) (pa_cons (pe_callTy call_str_int (by rfl) T.n_str (by decide +kernel) (pa_cons (pe_glob (by rfl) (T.c_GREATEST_NUMBER).choose_spec.1 (T.c_GREATEST_NUMBER).choose_spec.2) pa_nil)) pa_nil)) (nomark _)) (pe_one (pe_cmpR op_le (pe_callTy intT_is (by rfl) T.n_int (by decide +kernel) (pa_cons (pv 0) pa_nil)) (pe_glob (by rfl) (T.c_GREATEST_NUMBER).choose_spec.1 (T.c_GREATEST_NUMBER).choose_spec.2) (nomark _)))))))
theorem oki_FaultyText (T : Top K mg c_DIGITS c_GREATEST_NUMBER c_KEPT_WORDS c_LETTERS c_LONGEST_WORD c_MOST_OPEN C_Reader C_CubeError C_FaultyText) : XIni P w K mg base 1 C_FaultyText "at" := by
  obtain ⟨f, fd, F, iC, tI⟩ := T.f_FaultyText___init__
  exact ini_x F T.to_FaultyText T.no_FaultyText_at iC tI sc_FaultyText___init__ rfl rfl (F.binds fun _ _ _ _ _ _ us hl => match us, hl with | [_, _], _ => rfl) fun cdv A outer s H E =>
    (pss_one (ps_ost (pv 0) (pv 1)))
theorem ok_Reader (T : Top K mg c_DIGITS c_GREATEST_NUMBER c_KEPT_WORDS c_LETTERS c_LONGEST_WORD c_MOST_OPEN C_Reader C_CubeError C_FaultyText) : Zmak P w K mg base 1 "Reader" C_Reader ["self", "found"] (RelOf K [0] (t_Reader___init__ K) 2 2) := by
  obtain ⟨f, fd, F, hm⟩ := T.f_Reader___init__
  exact mak_z F hm T.at_Reader sc_Reader___init__ rfl rfl (F.binds fun _ _ _ _ _ _ us hl => match us, hl with | [_, _], _ => rfl) fun cdv A outer s H E hr =>
    (pss_cons (ps_fld (pv 0) (pv 1) rfl)
      (pss_cons (ps_fld (pv 0) pe_int rfl)
      (pss_one (ps_fld (pv 0) pe_int rfl))))
theorem ok_Reader__peek (T : Top K mg c_DIGITS c_GREATEST_NUMBER c_KEPT_WORDS c_LETTERS c_LONGEST_WORD c_MOST_OPEN C_Reader C_CubeError C_FaultyText) : Zmet P w K mg base 1 C_Reader "_peek" ["self"] (RelOf K [0] (t_Reader__peek K) 1 1) := by
  obtain ⟨f, fd, F, hm⟩ := T.f_Reader__peek
  exact met_z F hm sc_Reader__peek rfl rfl (F.binds fun _ _ _ _ _ _ us hl => match us, hl with | [_], _ => rfl) fun cdv A outer s H E hr =>
    (pss_one (ps_ret (pe_ifExp (pt_cmpR op_lt (pe_fld (pv 0) rfl) (pe_callB call_len (by rfl) T.n_len (by decide +kernel) (pa_cons (pe_fld (pv 0) rfl) pa_nil)) (nomark _)) (pe_ix ix_seq (pe_fld (pv 0) rfl) (pe_fld (pv 0) rfl) (fun _ _ => rfl)) pe_str)))
theorem ok_Reader__take (T : Top K mg c_DIGITS c_GREATEST_NUMBER c_KEPT_WORDS c_LETTERS c_LONGEST_WORD c_MOST_OPEN C_Reader C_CubeError C_FaultyText) {R_Reader__peek : Rel} (g_Reader__peek : Zmet P w K mg base 1 C_Reader "_peek" ["self"] R_Reader__peek) : Zmet P w K mg base 2 C_Reader "_take" ["self"] (RelOf K [0] (t_Reader__take K R_Reader__peek C_Reader) 2 1) := by
  obtain ⟨f, fd, F, hm⟩ := T.f_Reader__take
  exact met_z F hm sc_Reader__take rfl rfl (F.binds fun _ _ _ _ _ _ us hl => match us, hl with | [_], _ => rfl) fun cdv A outer s H E hr =>
    (pss_cons (ps_set (i := 1) sc_Reader__take.nd rfl (Or.inl rfl) (pe_meth0Z g_Reader__peek T.cls_Reader hr (by omega) (pv 0)))
      (pss_cons (ps_fldaug (pv 0) pe_int in_add)
      (pss_one (ps_ret (pv 1)))))
theorem ok_Reader__skip (T : Top K mg c_DIGITS c_GREATEST_NUMBER c_KEPT_WORDS c_LETTERS c_LONGEST_WORD c_MOST_OPEN C_Reader C_CubeError C_FaultyText) {R_Reader__peek : Rel} (g_Reader__peek : Zmet P w K mg base 1 C_Reader "_peek" ["self"] R_Reader__peek) {R_Reader__take : Rel} (g_Reader__take : Zmet P w K mg base 2 C_Reader "_take" ["self"] R_Reader__take) : Zmet P w K mg base 3 C_Reader "_skip" ["self", "token"] (RelOf K [0] (t_Reader__skip K R_Reader__peek R_Reader__take C_Reader) 2 2) := by
  obtain ⟨f, fd, F, hm⟩ := T.f_Reader__skip
  exact met_z F hm sc_Reader__skip rfl rfl (F.binds fun _ _ _ _ _ _ us hl => match us, hl with | [_, _], _ => rfl) fun cdv A outer s H E hr =>
    (pss_cons (ps_if (pt_cmpR op_ne (pe_meth0Z g_Reader__peek T.cls_Reader hr (by omega) (pv 0)) (pv 1) (nomark _)) (pss_one (ps_ret pe_bl)) pss_nil)
      (pss_cons (ps_expr (pe_meth0Z g_Reader__take T.cls_Reader hr (by omega) (pv 0)))
      (pss_one (ps_ret pe_bl))))
theorem okx_Reader__refuse (T : Top K mg c_DIGITS c_GREATEST_NUMBER c_KEPT_WORDS c_LETTERS c_LONGEST_WORD c_MOST_OPEN C_Reader C_CubeError C_FaultyText) (gi_FaultyText : XIni P w K mg base 1 C_FaultyText "at") : Zmex P w K mg base 3 C_Reader "_refuse" ["self"] (RelOfE K [0] (fun E => Pr.tx_Reader__refuse K C_FaultyText E) 1 1) (RelOfX K [0] (fun E => Pr.tx_Reader__refuse K C_FaultyText E) 1 1) := by
  obtain ⟨f, fd, F, hm⟩ := T.f_Reader__refuse
  exact met_zx F hm sc_Reader__refuse rfl rfl (F.binds fun _ _ _ _ _ _ us hl => match us, hl with | [_], _ => rfl) fun cdv A outer s H E hr =>
    (pss_one (ps_raise1 rfl (L2N.takes_of rfl rfl rfl rfl) gi_FaultyText T.at_FaultyText hr (by omega) (by rfl) (pa_cons (pe_op op_add (pe_fld (pv 0) rfl) pe_int) pa_nil)))
theorem okx_Reader__expect (T : Top K mg c_DIGITS c_GREATEST_NUMBER c_KEPT_WORDS c_LETTERS c_LONGEST_WORD c_MOST_OPEN C_Reader C_CubeError C_FaultyText) {R_Reader__skip : Rel} (g_Reader__skip : Zmet P w K mg base 3 C_Reader "_skip" ["self", "token"] R_Reader__skip) {Rx_Reader__refuse : Rel} {RX_Reader__refuse : RelX} (gx_Reader__refuse : Zmex P w K mg base 3 C_Reader "_refuse" ["self"] Rx_Reader__refuse RX_Reader__refuse) : Zmex P w K mg base 4 C_Reader "_expect" ["self", "token"] (RelOfE K [0] (fun E => Pr.tx_Reader__expect K R_Reader__skip Rx_Reader__refuse RX_Reader__refuse C_Reader E) 2 2) (RelOfX K [0] (fun E => Pr.tx_Reader__expect K R_Reader__skip Rx_Reader__refuse RX_Reader__refuse C_Reader E) 2 2) := by
  obtain ⟨f, fd, F, hm⟩ := T.f_Reader__expect
  exact met_zx F hm sc_Reader__expect rfl rfl (F.binds fun _ _ _ _ _ _ us hl => match us, hl with | [_, _], _ => rfl) fun cdv A outer s H E hr =>
    (pss_one (ps_if (pt_not (pt_val (pe_methZ g_Reader__skip T.cls_Reader hr (by omega) (pv 0) (pa_cons (pv 1) pa_nil)))) (pss_one (ps_expr (pe_meth0X gx_Reader__refuse T.cls_Reader hr (by omega) (L2N.takes_of rfl rfl rfl rfl) (pv 0)))) pss_nil))
theorem okx_Reader__word (T : Top K mg c_DIGITS c_GREATEST_NUMBER c_KEPT_WORDS c_LETTERS c_LONGEST_WORD c_MOST_OPEN C_Reader C_CubeError C_FaultyText) {R_Reader__peek : Rel} (g_Reader__peek : Zmet P w K mg base 1 C_Reader "_peek" ["self"] R_Reader__peek) {R_Reader__take : Rel} (g_Reader__take : Zmet P w K mg base 2 C_Reader "_take" ["self"] R_Reader__take) {Rx_Reader__refuse : Rel} {RX_Reader__refuse : RelX} (gx_Reader__refuse : Zmex P w K mg base 3 C_Reader "_refuse" ["self"] Rx_Reader__refuse RX_Reader__refuse) {R_is_word : Rel} (g_is_word : Zdef P w K mg base 1 "is_word" ["text"] R_is_word) : Zmex P w K mg base 4 C_Reader "_word" ["self"] (RelOfE K [0] (fun E => Pr.tx_Reader__word K R_Reader__peek R_Reader__take Rx_Reader__refuse RX_Reader__refuse R_is_word C_Reader E) 1 1) (RelOfX K [0] (fun E => Pr.tx_Reader__word K R_Reader__peek R_Reader__take Rx_Reader__refuse RX_Reader__refuse R_is_word C_Reader E) 1 1) := by
  obtain ⟨f, fd, F, hm⟩ := T.f_Reader__word
  exact met_zx F hm sc_Reader__word rfl rfl (F.binds fun _ _ _ _ _ _ us hl => match us, hl with | [_], _ => rfl) fun cdv A outer s H E hr =>
    (pss_cons (ps_if (pt_not (pt_val (pe_callZ g_is_word hr (by omega) (by rfl) (pa_cons (pe_meth0Z g_Reader__peek T.cls_Reader hr (by omega) (pv 0)) pa_nil)))) (pss_one (ps_expr (pe_meth0X gx_Reader__refuse T.cls_Reader hr (by omega) (L2N.takes_of rfl rfl rfl rfl) (pv 0)))) pss_nil)
      (pss_one (ps_ret (pe_meth0Z g_Reader__take T.cls_Reader hr (by omega) (pv 0)))))
theorem okx_Reader_finish (T : Top K mg c_DIGITS c_GREATEST_NUMBER c_KEPT_WORDS c_LETTERS c_LONGEST_WORD c_MOST_OPEN C_Reader C_CubeError C_FaultyText) {Rx_Reader__refuse : Rel} {RX_Reader__refuse : RelX} (gx_Reader__refuse : Zmex P w K mg base 3 C_Reader "_refuse" ["self"] Rx_Reader__refuse RX_Reader__refuse) : Zmex P w K mg base 4 C_Reader "finish" ["self"] (RelOfE K [0] (fun E => Pr.tx_Reader_finish K Rx_Reader__refuse RX_Reader__refuse C_Reader E) 1 1) (RelOfX K [0] (fun E => Pr.tx_Reader_finish K Rx_Reader__refuse RX_Reader__refuse C_Reader E) 1 1) := by
  obtain ⟨f, fd, F, hm⟩ := T.f_Reader_finish
  exact met_zx F hm sc_Reader_finish rfl rfl (F.binds fun _ _ _ _ _ _ us hl => match us, hl with | [_], _ => rfl) fun cdv A outer s H E hr =>
    (pss_one (ps_if (pt_cmpR op_lt (pe_fld (pv 0) rfl) (pe_callB call_len (by rfl) T.n_len (by decide +kernel) (pa_cons (pe_fld (pv 0) rfl) pa_nil)) (nomark _)) (pss_one (ps_expr (pe_meth0X gx_Reader__refuse T.cls_Reader hr (by omega) (L2N.takes_of rfl rfl rfl rfl) (pv 0)))) pss_nil))
theorem okx_Reader__path (T : Top K mg c_DIGITS c_GREATEST_NUMBER c_KEPT_WORDS c_LETTERS c_LONGEST_WORD c_MOST_OPEN C_Reader C_CubeError C_FaultyText) {R_Reader__skip : Rel} (g_Reader__skip : Zmet P w K mg base 3 C_Reader "_skip" ["self", "token"] R_Reader__skip) {Rx_Reader__word : Rel} {RX_Reader__word : RelX} (gx_Reader__word : Zmex P w K mg base 4 C_Reader "_word" ["self"] Rx_Reader__word RX_Reader__word) : Zmex P w K mg base 5 C_Reader "_path" ["self"] (RelOfE K [0] (fun E => Pr.tx_Reader__path K R_Reader__skip Rx_Reader__word RX_Reader__word C_Reader E) 2 1) (RelOfX K [0] (fun E => Pr.tx_Reader__path K R_Reader__skip Rx_Reader__word RX_Reader__word C_Reader E) 2 1) := by
  obtain ⟨f, fd, F, hm⟩ := T.f_Reader__path
  exact met_zx F hm sc_Reader__path rfl rfl (F.binds fun _ _ _ _ _ _ us hl => match us, hl with | [_], _ => rfl) fun cdv A outer s H E hr =>
    (pss_cons (ps_set (i := 1) sc_Reader__path.nd rfl (Or.inl rfl) (pe_lst (pa_cons (pe_meth0X gx_Reader__word T.cls_Reader hr (by omega) (L2N.takes_of rfl rfl rfl rfl) (pv 0)) pa_nil)))
      (pss_cons (ps_while (passes_of rfl) (pt_val (pe_methZ g_Reader__skip T.cls_Reader hr (by omega) (pv 0) (pa_cons pe_str pa_nil))) (pss_one (ps_expr (pe_bm PySem.F.plainAttrs_list PySem.F.slot_list_append PySem.F.type_list_append mt_append (pv 1) (pa_cons (pe_meth0X gx_Reader__word T.cls_Reader hr (by omega) (L2N.takes_of rfl rfl rfl rfl) (pv 0)) pa_nil)))))
      (pss_one (ps_ret (pe_join pe_str (pv 1))))))
theorem okx_Reader__condition (T : Top K mg c_DIGITS c_GREATEST_NUMBER c_KEPT_WORDS c_LETTERS c_LONGEST_WORD c_MOST_OPEN C_Reader C_CubeError C_FaultyText) {R_Reader__skip : Rel} (g_Reader__skip : Zmet P w K mg base 3 C_Reader "_skip" ["self", "token"] R_Reader__skip) {Rx_Reader__expect : Rel} {RX_Reader__expect : RelX} (gx_Reader__expect : Zmex P w K mg base 4 C_Reader "_expect" ["self", "token"] Rx_Reader__expect RX_Reader__expect) {Rx_Reader__path : Rel} {RX_Reader__path : RelX} (gx_Reader__path : Zmex P w K mg base 5 C_Reader "_path" ["self"] Rx_Reader__path RX_Reader__path) {Rx_Reader__word : Rel} {RX_Reader__word : RelX} (gx_Reader__word : Zmex P w K mg base 4 C_Reader "_word" ["self"] Rx_Reader__word RX_Reader__word) : Zmex P w K mg base 6 C_Reader "_condition" ["self"] (RelOfE K [0] (fun E => Pr.tx_Reader__condition K R_Reader__skip Rx_Reader__expect RX_Reader__expect Rx_Reader__path RX_Reader__path Rx_Reader__word RX_Reader__word C_Reader E) 3 1) (RelOfX K [0] (fun E => Pr.tx_Reader__condition K R_Reader__skip Rx_Reader__expect RX_Reader__expect Rx_Reader__path RX_Reader__path Rx_Reader__word RX_Reader__word C_Reader E) 3 1) := by
  obtain ⟨f, fd, F, hm⟩ := T.f_Reader__condition
  exact met_zx F hm sc_Reader__condition rfl rfl (F.binds fun _ _ _ _ _ _ us hl => match us, hl with | [_], _ => rfl) fun cdv A outer s H E hr =>
    (pss_cons (ps_set (i := 1) sc_Reader__condition.nd rfl (Or.inl rfl) (pe_meth0X gx_Reader__word T.cls_Reader hr (by omega) (L2N.takes_of rfl rfl rfl rfl) (pv 0)))
      (pss_cons (ps_expr (pe_methX gx_Reader__expect T.cls_Reader hr (by omega) (L2N.takes_of rfl rfl rfl rfl) (pv 0) (pa_cons pe_str pa_nil)))
      (pss_cons (ps_set (i := 2) sc_Reader__condition.nd rfl (Or.inl rfl) (pe_lst (pa_cons (pe_meth0X gx_Reader__path T.cls_Reader hr (by omega) (L2N.takes_of rfl rfl rfl rfl) (pv 0)) pa_nil)))
      (pss_cons (ps_while (passes_of rfl) (pt_val (pe_methZ g_Reader__skip T.cls_Reader hr (by omega) (pv 0) (pa_cons pe_str pa_nil))) (pss_one (ps_expr (pe_bm PySem.F.plainAttrs_list PySem.F.slot_list_append PySem.F.type_list_append mt_append (pv 2) (pa_cons (pe_meth0X gx_Reader__path T.cls_Reader hr (by omega) (L2N.takes_of rfl rfl rfl rfl) (pv 0)) pa_nil)))))
      (pss_one (ps_ret (pe_tup (pa_cons (pv 1) (pa_cons (pe_callTy call_tuple_of (by rfl) T.n_tuple (by decide +kernel) (pa_cons (pv 2) pa_nil)) pa_nil)))))))))
theorem okx_Reader__conditions (T : Top K mg c_DIGITS c_GREATEST_NUMBER c_KEPT_WORDS c_LETTERS c_LONGEST_WORD c_MOST_OPEN C_Reader C_CubeError C_FaultyText) {R_Reader__skip : Rel} (g_Reader__skip : Zmet P w K mg base 3 C_Reader "_skip" ["self", "token"] R_Reader__skip) {Rx_Reader__condition : Rel} {RX_Reader__condition : RelX} (gx_Reader__condition : Zmex P w K mg base 6 C_Reader "_condition" ["self"] Rx_Reader__condition RX_Reader__condition) : Zmex P w K mg base 7 C_Reader "_conditions" ["self"] (RelOfE K [0] (fun E => Pr.tx_Reader__conditions K R_Reader__skip Rx_Reader__condition RX_Reader__condition C_Reader E) 2 1) (RelOfX K [0] (fun E => Pr.tx_Reader__conditions K R_Reader__skip Rx_Reader__condition RX_Reader__condition C_Reader E) 2 1) := by
  obtain ⟨f, fd, F, hm⟩ := T.f_Reader__conditions
  exact met_zx F hm sc_Reader__conditions rfl rfl (F.binds fun _ _ _ _ _ _ us hl => match us, hl with | [_], _ => rfl) fun cdv A outer s H E hr =>
    (pss_cons (ps_if (pt_not (pt_val (pe_methZ g_Reader__skip T.cls_Reader hr (by omega) (pv 0) (pa_cons pe_str pa_nil)))) (pss_one (ps_ret (pe_tup pa_nil))) pss_nil)
      (pss_cons (ps_set (i := 1) sc_Reader__conditions.nd rfl (Or.inl rfl) (pe_lst (pa_cons (pe_meth0X gx_Reader__condition T.cls_Reader hr (by omega) (L2N.takes_of rfl rfl rfl rfl) (pv 0)) pa_nil)))
      (pss_cons (ps_while (passes_of rfl) (pt_val (pe_methZ g_Reader__skip T.cls_Reader hr (by omega) (pv 0) (pa_cons pe_str pa_nil))) (pss_one (ps_expr (pe_bm PySem.F.plainAttrs_list PySem.F.slot_list_append PySem.F.type_list_append mt_append (pv 1) (pa_cons (pe_meth0X gx_Reader__condition T.cls_Reader hr (by omega) (L2N.takes_of rfl rfl rfl rfl) (pv 0)) pa_nil)))))
      (pss_one (ps_ret (pe_callTy call_tuple_of (by rfl) T.n_tuple (by decide +kernel) (pa_cons (pv 1) pa_nil)))))))
theorem okx_Reader__factor {lv : Nat} (hlv : 12 ≤ lv) (T : Top K mg c_DIGITS c_GREATEST_NUMBER c_KEPT_WORDS c_LETTERS c_LONGEST_WORD c_MOST_OPEN C_Reader C_CubeError C_FaultyText) {R_Reader__skip : Rel} (g_Reader__skip : Zmet P w K mg base 3 C_Reader "_skip" ["self", "token"] R_Reader__skip) {Rx_Reader__conditions : Rel} {RX_Reader__conditions : RelX} (gx_Reader__conditions : Zmex P w K mg base 7 C_Reader "_conditions" ["self"] Rx_Reader__conditions RX_Reader__conditions) {Rx_Reader__expect : Rel} {RX_Reader__expect : RelX} (gx_Reader__expect : Zmex P w K mg base 4 C_Reader "_expect" ["self", "token"] Rx_Reader__expect RX_Reader__expect) {Rx_Reader__refuse : Rel} {RX_Reader__refuse : RelX} (gx_Reader__refuse : Zmex P w K mg base 3 C_Reader "_refuse" ["self"] Rx_Reader__refuse RX_Reader__refuse) {Rx_Reader_expression : Rel} {RX_Reader_expression : RelX} (gx_Reader_expression : Zmex P w K mg base (lv + 0) C_Reader "expression" ["self"] Rx_Reader_expression RX_Reader_expression) : Zmex P w K mg base (lv + 1) C_Reader "_factor" ["self"] (RelOfE K [0] (fun E => Pr.tx_Reader__factor K R_Reader__skip Rx_Reader__conditions RX_Reader__conditions Rx_Reader__expect RX_Reader__expect Rx_Reader__refuse RX_Reader__refuse Rx_Reader_expression RX_Reader_expression c_MOST_OPEN C_Reader E) 2 1) (RelOfX K [0] (fun E => Pr.tx_Reader__factor K R_Reader__skip Rx_Reader__conditions RX_Reader__conditions Rx_Reader__expect RX_Reader__expect Rx_Reader__refuse RX_Reader__refuse Rx_Reader_expression RX_Reader_expression c_MOST_OPEN C_Reader E) 2 1) := by
  obtain ⟨f, fd, F, hm⟩ := T.f_Reader__factor
  exact met_zx F hm sc_Reader__factor rfl rfl (F.binds fun _ _ _ _ _ _ us hl => match us, hl with | [_], _ => rfl) fun cdv A outer s H E hr =>
    (pss_cons (ps_if (pt_val (pe_methZ g_Reader__skip T.cls_Reader hr (by omega) (pv 0) (pa_cons pe_str pa_nil))) (pss_one (ps_ret (pe_tup (pa_cons pe_str (pa_cons (pe_meth0X gx_Reader__conditions T.cls_Reader hr (by omega) (L2N.takes_of rfl rfl rfl rfl) (pv 0)) pa_nil))))) pss_nil)
      (pss_cons (ps_if (pt_cmpR op_eq (pe_fld (pv 0) rfl) (pe_glob (by rfl) (T.c_MOST_OPEN).choose_spec.1 (T.c_MOST_OPEN).choose_spec.2) (nomark _)) (pss_one (ps_expr (pe_meth0X gx_Reader__refuse T.cls_Reader hr (by omega) (L2N.takes_of rfl rfl rfl rfl) (pv 0)))) pss_nil)
      (pss_cons (ps_expr (pe_methX gx_Reader__expect T.cls_Reader hr (by omega) (L2N.takes_of rfl rfl rfl rfl) (pv 0) (pa_cons pe_str pa_nil)))
      (pss_cons (ps_fldaug (pv 0) pe_int in_add)
      (pss_cons (ps_set (i := 1) sc_Reader__factor.nd rfl (Or.inl rfl) (pe_meth0X gx_Reader_expression T.cls_Reader hr (by omega) (L2N.takes_of rfl rfl rfl rfl) (pv 0)))
      (pss_cons (ps_expr (pe_methX gx_Reader__expect T.cls_Reader hr (by omega) (L2N.takes_of rfl rfl rfl rfl) (pv 0) (pa_cons pe_str pa_nil)))
      (pss_cons (ps_fldaug (pv 0) pe_int in_sub)
      (pss_one (ps_ret (pv 1))))))))))
theorem okx_Reader__term {lv : Nat} (hlv : 12 ≤ lv) (T : Top K mg c_DIGITS c_GREATEST_NUMBER c_KEPT_WORDS c_LETTERS c_LONGEST_WORD c_MOST_OPEN C_Reader C_CubeError C_FaultyText) {R_Reader__peek : Rel} (g_Reader__peek : Zmet P w K mg base 1 C_Reader "_peek" ["self"] R_Reader__peek) {R_Reader__take : Rel} (g_Reader__take : Zmet P w K mg base 2 C_Reader "_take" ["self"] R_Reader__take) {Rx_Reader__expect : Rel} {RX_Reader__expect : RelX} (gx_Reader__expect : Zmex P w K mg base 4 C_Reader "_expect" ["self", "token"] Rx_Reader__expect RX_Reader__expect) {Rx_Reader__factor : Rel} {RX_Reader__factor : RelX} (gx_Reader__factor : Zmex P w K mg base (lv + 1) C_Reader "_factor" ["self"] Rx_Reader__factor RX_Reader__factor) {R__is_number : Rel} (g__is_number : Zdef P w K mg base 2 "_is_number" ["token"] R__is_number) : Zmex P w K mg base (lv + 2) C_Reader "_term" ["self"] (RelOfE K [0] (fun E => Pr.tx_Reader__term K R_Reader__peek R_Reader__take Rx_Reader__expect RX_Reader__expect Rx_Reader__factor RX_Reader__factor R__is_number C_Reader E) 2 1) (RelOfX K [0] (fun E => Pr.tx_Reader__term K R_Reader__peek R_Reader__take Rx_Reader__expect RX_Reader__expect Rx_Reader__factor RX_Reader__factor R__is_number C_Reader E) 2 1) := by
  obtain ⟨f, fd, F, hm⟩ := T.f_Reader__term
  exact met_zx F hm sc_Reader__term rfl rfl (F.binds fun _ _ _ _ _ _ us hl => match us, hl with | [_], _ => rfl) fun cdv A outer s H E hr =>
    (pss_cons (ps_if (pt_not (pt_val (pe_callZ g__is_number hr (by omega) (by rfl) (pa_cons (pe_meth0Z g_Reader__peek T.cls_Reader hr (by omega) (pv 0)) pa_nil)))) (pss_one (ps_ret (pe_meth0X gx_Reader__factor T.cls_Reader hr (by omega) (L2N.takes_of rfl rfl rfl rfl) (pv 0)))) pss_nil)
      (pss_cons (ps_set (i := 1) sc_Reader__term.nd rfl (Or.inl rfl) (pe_callTy intT_is (by rfl) T.n_int (by decide +kernel) (pa_cons (pe_meth0Z g_Reader__take T.cls_Reader hr (by omega) (pv 0)) pa_nil)))
      (pss_cons (ps_expr (pe_methX gx_Reader__expect T.cls_Reader hr (by omega) (L2N.takes_of rfl rfl rfl rfl) (pv 0) (pa_cons pe_str pa_nil)))
      (pss_one (ps_ret (pe_tup (pa_cons pe_str (pa_cons (pv 1) (pa_cons (pe_meth0X gx_Reader__factor T.cls_Reader hr (by omega) (L2N.takes_of rfl rfl rfl rfl) (pv 0)) pa_nil)))))))))
theorem okx_Reader_expression {lv : Nat} (hlv : 12 ≤ lv) (T : Top K mg c_DIGITS c_GREATEST_NUMBER c_KEPT_WORDS c_LETTERS c_LONGEST_WORD c_MOST_OPEN C_Reader C_CubeError C_FaultyText) {R_Reader__peek : Rel} (g_Reader__peek : Zmet P w K mg base 1 C_Reader "_peek" ["self"] R_Reader__peek) {R_Reader__skip : Rel} (g_Reader__skip : Zmet P w K mg base 3 C_Reader "_skip" ["self", "token"] R_Reader__skip) {R_Reader__take : Rel} (g_Reader__take : Zmet P w K mg base 2 C_Reader "_take" ["self"] R_Reader__take) {Rx_Reader__term : Rel} {RX_Reader__term : RelX} (gx_Reader__term : Zmex P w K mg base (lv + 2) C_Reader "_term" ["self"] Rx_Reader__term RX_Reader__term) : Zmex P w K mg base (lv + 3) C_Reader "expression" ["self"] (RelOfE K [0] (fun E => Pr.tx_Reader_expression K R_Reader__peek R_Reader__skip R_Reader__take Rx_Reader__term RX_Reader__term C_Reader E) 3 1) (RelOfX K [0] (fun E => Pr.tx_Reader_expression K R_Reader__peek R_Reader__skip R_Reader__take Rx_Reader__term RX_Reader__term C_Reader E) 3 1) := by
  obtain ⟨f, fd, F, hm⟩ := T.f_Reader_expression
  exact met_zx F hm sc_Reader_expression rfl rfl (F.binds fun _ _ _ _ _ _ us hl => match us, hl with | [_], _ => rfl) fun cdv A outer s H E hr =>
    (pss_cons (ps_set (i := 1) sc_Reader_expression.nd rfl (Or.inl rfl) (pe_ifExp (pt_val (pe_methZ g_Reader__skip T.cls_Reader hr (by omega) (pv 0) (pa_cons pe_str pa_nil))) (pe_tup (pa_cons pe_str (pa_cons (pe_meth0X gx_Reader__term T.cls_Reader hr (by omega) (L2N.takes_of rfl rfl rfl rfl) (pv 0)) pa_nil))) (pe_meth0X gx_Reader__term T.cls_Reader hr (by omega) (L2N.takes_of rfl rfl rfl rfl) (pv 0))))
      (pss_cons (ps_while (passes_of rfl) (pt_cmpR op_in_seq (pe_meth0Z g_Reader__peek T.cls_Reader hr (by omega) (pv 0)) (pe_tup (pa_cons pe_str (pa_cons pe_str pa_nil))) (by with_unfolding_all rfl)) (pss_cons (ps_set (i := 2) sc_Reader_expression.nd rfl (Or.inl rfl) (pe_ifExp (pt_cmpR op_eq (pe_meth0Z g_Reader__take T.cls_Reader hr (by omega) (pv 0)) pe_str (nomark _)) pe_str pe_str))
      (pss_one (ps_set (i := 1) sc_Reader_expression.nd rfl (Or.inl rfl) (pe_tup (pa_cons (pv 2) (pa_cons (pv 1) (pa_cons (pe_meth0X gx_Reader__term T.cls_Reader hr (by omega) (L2N.takes_of rfl rfl rfl rfl) (pv 0)) pa_nil))))))))
      (pss_one (ps_ret (pv 1)))))
theorem okx_read_expression (T : Top K mg c_DIGITS c_GREATEST_NUMBER c_KEPT_WORDS c_LETTERS c_LONGEST_WORD c_MOST_OPEN C_Reader C_CubeError C_FaultyText) {R_Reader : Rel} (g_Reader : Zmak P w K mg base 1 "Reader" C_Reader ["self", "found"] R_Reader) {Rx_Reader_expression : Rel} {RX_Reader_expression : RelX} (gx_Reader_expression : Zmex P w K mg base 45 C_Reader "expression" ["self"] Rx_Reader_expression RX_Reader_expression) {Rx_Reader_finish : Rel} {RX_Reader_finish : RelX} (gx_Reader_finish : Zmex P w K mg base 4 C_Reader "finish" ["self"] Rx_Reader_finish RX_Reader_finish) {R_tokens : Rel} (g_tokens : Zdef P w K mg base 2 "tokens" ["text"] R_tokens) : Zdex P w K mg base 46 "read_expression" ["text"] (RelOfE K [] (fun E => Pr.tx_read_expression K R_Reader Rx_Reader_expression RX_Reader_expression Rx_Reader_finish RX_Reader_finish R_tokens C_Reader E) 3 1) (RelOfX K [] (fun E => Pr.tx_read_expression K R_Reader Rx_Reader_expression RX_Reader_expression Rx_Reader_finish RX_Reader_finish R_tokens C_Reader E) 3 1) := by
  obtain ⟨f, fd, F, hm⟩ := T.f_read_expression
  exact def_zx F hm sc_read_expression rfl rfl (F.binds fun _ _ _ _ _ _ us hl => match us, hl with | [_], _ => rfl) fun cdv A outer s H E hr =>
    (pss_cons (ps_set (i := 1) sc_read_expression.nd rfl (Or.inl rfl) (pe_makeZ g_Reader hr (by omega) (by rfl) (pa_cons (pe_callZ g_tokens hr (by omega) (by rfl) (pa_cons (pv 0) pa_nil)) pa_nil)))
      (pss_cons (ps_set (i := 2) sc_read_expression.nd rfl (Or.inl rfl) (pe_meth0X gx_Reader_expression T.cls_Reader hr (by omega) (L2N.takes_of rfl rfl rfl rfl) (pv 1)))
      (pss_cons (ps_expr (pe_meth0X gx_Reader_finish T.cls_Reader hr (by omega) (L2N.takes_of rfl rfl rfl rfl) (pv 1)))
      (pss_one (ps_ret (pv 2))))))
theorem ok__law_cell (T : Top K mg c_DIGITS c_GREATEST_NUMBER c_KEPT_WORDS c_LETTERS c_LONGEST_WORD c_MOST_OPEN C_Reader C_CubeError C_FaultyText) : Zdef P w K mg base 1 "_law_cell" ["script", "k"] (RelOf K [] (t__law_cell K) 2 2) := by
  obtain ⟨f, fd, F, hm⟩ := T.f__law_cell
  exact def_z F hm sc__law_cell rfl rfl (F.binds fun _ _ _ _ _ _ us hl => match us, hl with | [_, _], _ => rfl) fun cdv A outer s H E hr =>
    (pss_cons (ps_if (pt_cmpR op_lt (pv 1) (pe_callB call_len (by rfl) T.n_len (by decide +kernel) (pa_cons (pv 0) pa_nil)) (nomark _)) (pss_one (ps_ret (pe_callTy call_int1 (by rfl) T.n_int (by decide +kernel) (pa_cons (pe_ix ix_seq (pv 0) (pv 1) (fun _ _ => rfl)) pa_nil)))) pss_nil)
      (pss_one (ps_ret pe_int)))
theorem ok__law_digits (T : Top K mg c_DIGITS c_GREATEST_NUMBER c_KEPT_WORDS c_LETTERS c_LONGEST_WORD c_MOST_OPEN C_Reader C_CubeError C_FaultyText) : Zdef P w K mg base 1 "_law_digits" ["cell", "at"] (RelOf K [] (t__law_digits K) 5 2) := by
  obtain ⟨f, fd, F, hm⟩ := T.f__law_digits
  exact def_z F hm sc__law_digits rfl rfl (F.binds fun _ _ _ _ _ _ us hl => match us, hl with | [_, _], _ => rfl) fun cdv A outer s H E hr =>
    (pss_cons (ps_set (i := 2) sc__law_digits.nd rfl (Or.inl rfl) (pe_lst pa_nil))
      (pss_cons (ps_if (pt_cmpR op_lt (pv 0) pe_int (nomark _)) (pss_one (ps_set (i := 0) sc__law_digits.nd rfl (Or.inl rfl) (pe_op op_sub pe_int (pe_op op_mul pe_int (pv 0))))) pss_nil)
      (pss_cons (ps_if (pt_cmpR op_ge (pv 0) (pe_op op_pow pe_int pe_int) (nomark _)) (pss_one (ps_for PassesOwn.never rfl (pi_range1 (by rfl) T.n_range (pa_cons pe_int pa_nil)) (pg_name (i := 3) sc__law_digits.nd rfl (Or.inl rfl)) (pss_one (ps_if (pt_cmpR op_gt (pv 0) pe_int (nomark _)) (pss_cons (ps_expr (pe_bm PySem.F.plainAttrs_list PySem.F.slot_list_append PySem.F.type_list_append mt_append (pv 2) (pa_cons (pe_op op_mod (pe_callTy call_int1 (by rfl) T.n_int (by decide +kernel) (pa_cons (pv 0) pa_nil)) pe_int) pa_nil)))
      (pss_one (ps_set (i := 0) sc__law_digits.nd rfl (Or.inl rfl) (pe_op op_fdiv (pv 0) pe_int)))) pss_nil)))) (pss_cons (ps_set (i := 4) sc__law_digits.nd rfl (Or.inl rfl) (pe_op op_mod (pe_callTy call_int1 (by rfl) T.n_int (by decide +kernel) (pa_cons (pe_op op_add (pe_op op_add (pe_op op_mul (pv 0) pe_int) (pe_op op_mul (pv 1) pe_int)) pe_int) pa_nil)) pe_int))
      (pss_one (ps_for PassesOwn.never rfl (pi_range1 (by rfl) T.n_range (pa_cons pe_int pa_nil)) (pg_name (i := 3) sc__law_digits.nd rfl (Or.inl rfl)) (pss_cons (ps_set (i := 4) sc__law_digits.nd rfl (Or.inl rfl) (pe_op op_mod (pe_callTy call_int1 (by rfl) T.n_int (by decide +kernel) (pa_cons (pe_op op_add (pe_op op_add (pe_op op_mul (pv 4) pe_int) (pe_op op_mul pe_int (pv 3))) pe_int) pa_nil)) pe_int))
      (pss_one (ps_expr (pe_bm PySem.F.plainAttrs_list PySem.F.slot_list_append PySem.F.type_list_append mt_append (pv 2) (pa_cons (pe_op op_mod (pe_callTy call_int1 (by rfl) T.n_int (by decide +kernel) (pa_cons (pe_op op_fdiv (pv 4) pe_int) pa_nil)) pe_int) pa_nil)))))))))
      (pss_one (ps_ret (pv 2))))))
theorem ok__law_box (T : Top K mg c_DIGITS c_GREATEST_NUMBER c_KEPT_WORDS c_LETTERS c_LONGEST_WORD c_MOST_OPEN C_Reader C_CubeError C_FaultyText) {R__law_cell : Rel} (g__law_cell : Zdef P w K mg base 1 "_law_cell" ["script", "k"] R__law_cell) {R__law_digits : Rel} (g__law_digits : Zdef P w K mg base 1 "_law_digits" ["cell", "at"] R__law_digits) : Zdef P w K mg base 2 "_law_box" ["script", "at"] (RelOf K [] (t__law_box K R__law_cell R__law_digits) 2 2) := by
  obtain ⟨f, fd, F, hm⟩ := T.f__law_box
  exact def_z F hm sc__law_box rfl rfl (F.binds fun _ _ _ _ _ _ us hl => match us, hl with | [_, _], _ => rfl) fun cdv A outer s H E hr =>
    (pss_one (ps_ret (pe_lst (pa_cons (pe_callZ g__law_digits hr (by omega) (by rfl) (pa_cons (pe_callZ g__law_cell hr (by omega) (by rfl) (pa_cons (pv 0) (pa_cons (pv 1) pa_nil))) (pa_cons (pv 1) pa_nil))) (pa_cons pe_int pa_nil)))))
theorem ok__law_draw (T : Top K mg c_DIGITS c_GREATEST_NUMBER c_KEPT_WORDS c_LETTERS c_LONGEST_WORD c_MOST_OPEN C_Reader C_CubeError C_FaultyText) : Zdef P w K mg base 1 "_law_draw" ["box", "many"] (RelOf K [0] (t__law_draw K) 3 2) := by
  obtain ⟨f, fd, F, hm⟩ := T.f__law_draw
  exact def_z F hm sc__law_draw rfl rfl (F.binds fun _ _ _ _ _ _ us hl => match us, hl with | [_, _], _ => rfl) fun cdv A outer s H E hr =>
    (pss_cons (ps_set (i := 2) sc__law_draw.nd rfl (Or.inl rfl) (pe_ix ix_seq (pv 0) pe_int (fun _ _ => rfl)))
      (pss_cons (ps_asg (pe_op op_add (pv 2) pe_int) (pg_sub (pv 0) pe_int set_list))
      (pss_cons (ps_if (pt_cmpR op_lt (pv 2) (pe_callB call_len (by rfl) T.n_len (by decide +kernel) (pa_cons (pe_ix ix_seq (pv 0) pe_int (fun _ _ => rfl)) pa_nil)) (nomark _)) (pss_one (ps_ret (pe_op op_mod (pe_callTy call_int1 (by rfl) T.n_int (by decide +kernel) (pa_cons (pe_ix ix_seq (pe_ix ix_seq (pv 0) pe_int (fun _ _ => rfl)) (pv 2) (fun _ _ => rfl)) pa_nil)) (pv 1)))) pss_nil)
      (pss_one (ps_ret pe_int)))))
theorem ok__law_is_integer (T : Top K mg c_DIGITS c_GREATEST_NUMBER c_KEPT_WORDS c_LETTERS c_LONGEST_WORD c_MOST_OPEN C_Reader C_CubeError C_FaultyText) : Zdef P w K mg base 1 "_law_is_integer" ["actual"] (RelOf K [] (t__law_is_integer K) 1 1) := by
  obtain ⟨f, fd, F, hm⟩ := T.f__law_is_integer
  exact def_z F hm sc__law_is_integer rfl rfl (F.binds fun _ _ _ _ _ _ us hl => match us, hl with | [_], _ => rfl) fun cdv A outer s H E hr =>
    (pss_one (ps_ret (pe_and (pe_callB call_isi (by rfl) T.n_isinstance (by decide +kernel) (pa_cons (pv 0) (pa_cons (pe_bltn (by rfl) T.n_int (by decide +kernel) rfl) pa_nil))) (pe_one (pe_not (pe_callB call_isi (by rfl) T.n_isinstance (by decide +kernel) (pa_cons (pv 0) (pa_cons (pe_bltn (by rfl) T.n_bool (by decide +kernel) rfl) pa_nil))))))))
theorem ok__law_same {lv : Nat} (T : Top K mg c_DIGITS c_GREATEST_NUMBER c_KEPT_WORDS c_LETTERS c_LONGEST_WORD c_MOST_OPEN C_Reader C_CubeError C_FaultyText) {R__law_is_integer : Rel} (g__law_is_integer : Zdef P w K mg base 1 "_law_is_integer" ["actual"] R__law_is_integer) {R__law_same : Rel} (g__law_same : Zdef P w K mg base (lv + 1) "_law_same" ["actual", "due"] R__law_same) : Zdef P w K mg base (lv + 2) "_law_same" ["actual", "due"] (RelOf K [] (t__law_same K R__law_is_integer R__law_same) 3 2) := by
  obtain ⟨f, fd, F, hm⟩ := T.f__law_same
  exact def_z F hm sc__law_same rfl rfl (F.binds fun _ _ _ _ _ _ us hl => match us, hl with | [_, _], _ => rfl) fun cdv A outer s H E hr =>
    (pss_cons (ps_if (pt_val (pe_callB call_isi (by rfl) T.n_isinstance (by decide +kernel) (pa_cons (pv 1) (pa_cons (pe_bltn (by rfl) T.n_tuple (by decide +kernel) rfl) pa_nil)))) (pss_cons (ps_if (PW.pt (pw_or (pt_not (pt_val (pe_callB call_isi (by rfl) T.n_isinstance (by decide +kernel) (pa_cons (pv 0) (pa_cons (pe_bltn (by rfl) T.n_tuple (by decide +kernel) rfl) pa_nil))))) (pw_or1 (pt_cmpR op_ne (pe_callB call_len (by rfl) T.n_len (by decide +kernel) (pa_cons (pv 0) pa_nil)) (pe_callB call_len (by rfl) T.n_len (by decide +kernel) (pa_cons (pv 1) pa_nil)) (nomark _))))) (pss_one (ps_ret pe_bl)) pss_nil)
      (pss_one (ps_ret (pe_callB (cr_all rfl) (by rfl) T.n_all (by decide +kernel) (pa_cons (pe_lc (own := [("at", 2)]) (g := (gName 2)) (tt := tYes) rfl sc__law_same.nd (pi_range1 (by rfl) T.n_range (pa_cons (pe_callB call_len (by rfl) T.n_len (by decide +kernel) (pa_cons (pv 1) pa_nil)) pa_nil)) (blkOk_by (N := ["actual", "due", "at"]) (sc := defScope s__law_same) (by decide +kernel)) (fun _ _ _ _ _ => (pg_name (i := 2) sc__law_same.nd rfl (Or.inl rfl))) (fun _ _ _ _ _ => pts_nil) (fun _ _ _ _ _ => (pe_callZ g__law_same hr (by omega) (by rfl) (pa_cons (pe_ix ix_seq (pv 0) (pv 2) (fun _ _ => rfl)) (pa_cons (pe_ix ix_seq (pv 1) (pv 2) (fun _ _ => rfl)) pa_nil))))) pa_nil))))) pss_nil)
      (pss_cons (ps_if (pt_val (pe_callB call_isi (by rfl) T.n_isinstance (by decide +kernel) (pa_cons (pv 1) (pa_cons (pe_bltn (by rfl) T.n_bool (by decide +kernel) rfl) pa_nil)))) (pss_one (ps_ret (pe_and (pe_callB call_isi (by rfl) T.n_isinstance (by decide +kernel) (pa_cons (pv 0) (pa_cons (pe_bltn (by rfl) T.n_bool (by decide +kernel) rfl) pa_nil))) (pe_one (pe_cmpR op_eq (pv 0) (pv 1) (nomark _)))))) pss_nil)
      (pss_cons (ps_if (pt_val (pe_callB call_isi (by rfl) T.n_isinstance (by decide +kernel) (pa_cons (pv 1) (pa_cons (pe_bltn (by rfl) T.n_int (by decide +kernel) rfl) pa_nil)))) (pss_one (ps_ret (pe_and (pe_callZ g__law_is_integer hr (by omega) (by rfl) (pa_cons (pv 0) pa_nil)) (pe_one (pe_cmpR op_eq (pv 0) (pv 1) (nomark _)))))) pss_nil)
      (pss_cons (ps_if (pt_val (pe_callB call_isi (by rfl) T.n_isinstance (by decide +kernel) (pa_cons (pv 1) (pa_cons (pe_bltn (by rfl) T.n_str (by decide +kernel) rfl) pa_nil)))) (pss_one (ps_ret (pe_and (pe_callB call_isi (by rfl) T.n_isinstance (by decide +kernel) (pa_cons (pv 0) (pa_cons (pe_bltn (by rfl) T.n_str (by decide +kernel) rfl) pa_nil))) (pe_one (pe_cmpR op_eq (pv 0) (pv 1) (nomark _)))))) pss_nil)
      (pss_one (ps_ret (pe_and (pe_cmpR op_isN (pv 0) pe_non (nomark _)) (pe_one (pe_cmpR op_isN (pv 1) pe_non (nomark _))))))))))
theorem no__law_same (T : Top K mg c_DIGITS c_GREATEST_NUMBER c_KEPT_WORDS c_LETTERS c_LONGEST_WORD c_MOST_OPEN C_Reader C_CubeError C_FaultyText) (k : Nat) : Zdef P w K mg base k "_law_same" ["actual", "due"] (fun _ _ _ => False) := by
  obtain ⟨f, fd, F, hm⟩ := T.f__law_same
  exact zdef_none F hm (F.binds fun _ _ _ _ _ _ us hl => match us, hl with | [_, _], _ => rfl) k
theorem ok__law_word (T : Top K mg c_DIGITS c_GREATEST_NUMBER c_KEPT_WORDS c_LETTERS c_LONGEST_WORD c_MOST_OPEN C_Reader C_CubeError C_FaultyText) {R__law_draw : Rel} (g__law_draw : Zdef P w K mg base 1 "_law_draw" ["box", "many"] R__law_draw) : Zdef P w K mg base 2 "_law_word" ["box", "taken"] (RelOf K [0, 1] (t__law_word K R__law_draw) 7 2) := by
  obtain ⟨f, fd, F, hm⟩ := T.f__law_word
  exact def_z F hm sc__law_word rfl rfl (F.binds fun _ _ _ _ _ _ us hl => match us, hl with | [_, _], _ => rfl) fun cdv A outer s H E hr =>
    (pss_cons (ps_set (i := 2) sc__law_word.nd rfl (Or.inl rfl) pe_str)
      (pss_cons (ps_for PassesOwn.never rfl (pi_range1 (by rfl) T.n_range (pa_cons pe_int pa_nil)) (pg_name (i := 3) sc__law_word.nd rfl (Or.inl rfl)) (pss_cons (ps_set (i := 4) sc__law_word.nd rfl (Or.inl rfl) pe_str)
      (pss_cons (ps_for PassesOwn.never rfl (pi_range1 (by rfl) T.n_range (pa_cons (pe_op op_add pe_int (pe_op op_mul (pe_callZ g__law_draw hr (by omega) (by rfl) (pa_cons (pv 0) (pa_cons pe_int pa_nil))) (pe_callZ g__law_draw hr (by omega) (by rfl) (pa_cons (pv 0) (pa_cons pe_int pa_nil))))) pa_nil)) (pg_name (i := 5) sc__law_word.nd rfl (Or.inl rfl)) (pss_one (ps_set (i := 4) sc__law_word.nd rfl (Or.inl rfl) (pe_op op_add_str (pv 4) (pe_ix ix_seq (pv 2) (pe_callZ g__law_draw hr (by omega) (by rfl) (pa_cons (pv 0) (pa_cons pe_int pa_nil))) (fun _ _ => rfl))))))
      (pss_one (ps_if (PW.pt (pw_and (pt_cmpR op_notIn_seq (pv 4) (pv 1) (by with_unfolding_all rfl)) (pw_and1 (pt_cmpR op_notIn_seq (pv 4) (pe_tup (pa_cons pe_str (pa_cons pe_str (pa_cons pe_str (pa_cons pe_str pa_nil))))) (by with_unfolding_all rfl))))) (pss_one (ps_ret (pv 4))) pss_nil)))))
      (pss_cons (ps_for PassesOwn.never rfl (pi_str (pv 2)) (pg_name (i := 6) sc__law_word.nd rfl (Or.inl rfl)) (pss_one (ps_if (pt_cmpR op_notIn_seq (pv 6) (pv 1) (by with_unfolding_all rfl)) (pss_one (ps_ret (pv 6))) pss_nil)))
      (pss_one (ps_ret pe_str)))))
theorem ok__law_leaves (T : Top K mg c_DIGITS c_GREATEST_NUMBER c_KEPT_WORDS c_LETTERS c_LONGEST_WORD c_MOST_OPEN C_Reader C_CubeError C_FaultyText) {R__law_draw : Rel} (g__law_draw : Zdef P w K mg base 1 "_law_draw" ["box", "many"] R__law_draw) {R__law_word : Rel} (g__law_word : Zdef P w K mg base 2 "_law_word" ["box", "taken"] R__law_word) : Zdef P w K mg base 3 "_law_leaves" ["box", "depth", "many"] (RelOf K [0] (t__law_leaves K R__law_draw R__law_word) 12 3) := by
  obtain ⟨f, fd, F, hm⟩ := T.f__law_leaves
  exact def_z F hm sc__law_leaves rfl rfl (F.binds fun _ _ _ _ _ _ us hl => match us, hl with | [_, _, _], _ => rfl) fun cdv A outer s H E hr =>
    (pss_cons (ps_set (i := 3) sc__law_leaves.nd rfl (Or.inl rfl) (pe_lst pa_nil))
      (pss_cons (ps_for PassesOwn.never rfl (pi_range1 (by rfl) T.n_range (pa_cons (pv 1) pa_nil)) (pg_name (i := 4) sc__law_leaves.nd rfl (Or.inl rfl)) (pss_cons (ps_set (i := 5) sc__law_leaves.nd rfl (Or.inl rfl) (pe_lst pa_nil))
      (pss_cons (ps_for PassesOwn.never rfl (pi_range1 (by rfl) T.n_range (pa_cons (pv 2) pa_nil)) (pg_name (i := 6) sc__law_leaves.nd rfl (Or.inl rfl)) (pss_one (ps_if (PW.pt (pw_or (pt_cmpR op_eq (pv 4) (pe_op op_sub (pv 1) pe_int) (nomark _)) (pw_or1 (pt_cmpR op_lt (pv 6) pe_int (nomark _))))) (pss_one (ps_expr (pe_bm PySem.F.plainAttrs_list PySem.F.slot_list_append PySem.F.type_list_append mt_append (pv 5) (pa_cons (pe_callZ g__law_word hr (by omega) (by rfl) (pa_cons (pv 0) (pa_cons (pv 5) pa_nil))) pa_nil)))) pss_nil)))
      (pss_one (ps_expr (pe_bm PySem.F.plainAttrs_list PySem.F.slot_list_append PySem.F.type_list_append mt_append (pv 3) (pa_cons (pv 5) pa_nil)))))))
      (pss_cons (ps_set (i := 7) sc__law_leaves.nd rfl (Or.inl rfl) (pe_lst pa_nil))
      (pss_cons (ps_for PassesOwn.never rfl (pi_range1 (by rfl) T.n_range (pa_cons (pe_op op_mul pe_int (pv 2)) pa_nil)) (pg_name (i := 8) sc__law_leaves.nd rfl (Or.inl rfl)) (pss_cons (ps_set (i := 9) sc__law_leaves.nd rfl (Or.inl rfl) (pe_join pe_str (pe_lc (own := [("pool", 11)]) (g := (gName 11)) (tt := tYes) rfl sc__law_leaves.nd (pi_list (pv 3)) (blkOk_by (N := ["box", "depth", "many", "pools", "level", "words", "k", "paths", "turn", "path", "word", "pool"]) (sc := defScope s__law_leaves) (by decide +kernel)) (fun _ _ _ _ _ => (pg_name (i := 11) sc__law_leaves.nd rfl (Or.inl rfl))) (fun _ _ _ _ _ => pts_nil) (fun _ _ _ _ _ => (pe_ix ix_seq (pv 11) (pe_callZ g__law_draw hr (by omega) (by rfl) (pa_cons (pv 0) (pa_cons (pe_callB call_len (by rfl) T.n_len (by decide +kernel) (pa_cons (pv 11) pa_nil)) pa_nil))) (fun _ _ => rfl))))))
      (pss_one (ps_if (PW.pt (pw_and (pt_cmpR op_notIn_seq (pv 9) (pv 7) (by with_unfolding_all rfl)) (pw_and1 (pt_cmpR op_lt (pe_callB call_len (by rfl) T.n_len (by decide +kernel) (pa_cons (pv 7) pa_nil)) (pv 2) (nomark _))))) (pss_one (ps_expr (pe_bm PySem.F.plainAttrs_list PySem.F.slot_list_append PySem.F.type_list_append mt_append (pv 7) (pa_cons (pv 9) pa_nil)))) pss_nil))))
      (pss_cons (ps_for PassesOwn.never rfl (pi_list (pe_ix ix_seq (pv 3) (pe_un un_neg pe_int) (fun _ _ => rfl))) (pg_name (i := 10) sc__law_leaves.nd rfl (Or.inl rfl)) (pss_cons (ps_set (i := 9) sc__law_leaves.nd rfl (Or.inl rfl) (pe_join pe_str (pe_op op_cat (pe_lc (own := [("pool", 11)]) (g := (gName 11)) (tt := tYes) rfl sc__law_leaves.nd (pi_list (pe_slice sl_list (pv 3) po_none (po_some (pe_un un_neg pe_int)))) (blkOk_by (N := ["box", "depth", "many", "pools", "level", "words", "k", "paths", "turn", "path", "word", "pool"]) (sc := defScope s__law_leaves) (by decide +kernel)) (fun _ _ _ _ _ => (pg_name (i := 11) sc__law_leaves.nd rfl (Or.inl rfl))) (fun _ _ _ _ _ => pts_nil) (fun _ _ _ _ _ => (pe_ix ix_seq (pv 11) pe_int (fun _ _ => rfl)))) (pe_lst (pa_cons (pv 10) pa_nil)))))
      (pss_one (ps_if (PW.pt (pw_and (pt_cmpR op_notIn_seq (pv 9) (pv 7) (by with_unfolding_all rfl)) (pw_and1 (pt_cmpR op_lt (pe_callB call_len (by rfl) T.n_len (by decide +kernel) (pa_cons (pv 7) pa_nil)) pe_int (nomark _))))) (pss_one (ps_expr (pe_bm PySem.F.plainAttrs_list PySem.F.slot_list_append PySem.F.type_list_append mt_append (pv 7) (pa_cons (pv 9) pa_nil)))) pss_nil))))
      (pss_one (ps_ret (pe_callTy call_tuple_of (by rfl) T.n_tuple (by decide +kernel) (pa_cons (pe_callB cr_sortedS (by rfl) T.n_sorted (by decide +kernel) (pa_cons (pv 7) pa_nil)) pa_nil)))))))))
theorem ok__law_prefix (T : Top K mg c_DIGITS c_GREATEST_NUMBER c_KEPT_WORDS c_LETTERS c_LONGEST_WORD c_MOST_OPEN C_Reader C_CubeError C_FaultyText) : Zdef P w K mg base 1 "_law_prefix" ["path", "level"] (RelOf K [] (t__law_prefix K) 2 2) := by
  obtain ⟨f, fd, F, hm⟩ := T.f__law_prefix
  exact def_z F hm sc__law_prefix rfl rfl (F.binds fun _ _ _ _ _ _ us hl => match us, hl with | [_, _], _ => rfl) fun cdv A outer s H E hr =>
    (pss_one (ps_ret (pe_join pe_str (pe_slice sl_list (pe_split (pv 0) pe_str) po_none (po_some (pv 1))))))
theorem ok__law_plain_leaves (T : Top K mg c_DIGITS c_GREATEST_NUMBER c_KEPT_WORDS c_LETTERS c_LONGEST_WORD c_MOST_OPEN C_Reader C_CubeError C_FaultyText) : Zdef P w K mg base 1 "_law_plain_leaves" ["depth", "many"] (RelOf K [] (t__law_plain_leaves K) 7 2) := by
  obtain ⟨f, fd, F, hm⟩ := T.f__law_plain_leaves
  exact def_z F hm sc__law_plain_leaves rfl rfl (F.binds fun _ _ _ _ _ _ us hl => match us, hl with | [_, _], _ => rfl) fun cdv A outer s H E hr =>
    (pss_cons (ps_set (i := 2) sc__law_plain_leaves.nd rfl (Or.inl rfl) pe_str)
      (pss_cons (ps_set (i := 3) sc__law_plain_leaves.nd rfl (Or.inl rfl) (pe_tup (pa_cons pe_str (pa_cons pe_str (pa_cons pe_str pa_nil)))))
      (pss_cons (ps_set (i := 4) sc__law_plain_leaves.nd rfl (Or.inl rfl) (pe_tup (pa_cons pe_str (pa_cons pe_str (pa_cons pe_str pa_nil)))))
      (pss_cons (ps_set (i := 5) sc__law_plain_leaves.nd rfl (Or.inl rfl) (pe_lst pa_nil))
      (pss_cons (ps_for PassesOwn.never rfl (pi_range1 (by rfl) T.n_range (pa_cons (pv 1) pa_nil)) (pg_name (i := 6) sc__law_plain_leaves.nd rfl (Or.inl rfl)) (pss_one (ps_if (pt_cmpR op_lt (pe_op op_mul pe_int (pv 6)) (pv 1) (nomark _)) (pss_one (ps_expr (pe_bm PySem.F.plainAttrs_list PySem.F.slot_list_append PySem.F.type_list_append mt_append (pv 5) (pa_cons (pe_op op_add_str (pe_ix ix_seq (pv 3) (pe_op op_sub (pv 0) pe_int) (fun _ _ => rfl)) (pe_ix ix_seq (pv 2) (pv 6) (fun _ _ => rfl))) pa_nil)))) (pss_one (ps_expr (pe_bm PySem.F.plainAttrs_list PySem.F.slot_list_append PySem.F.type_list_append mt_append (pv 5) (pa_cons (pe_op op_add_str (pe_ix ix_seq (pv 4) (pe_op op_sub (pv 0) pe_int) (fun _ _ => rfl)) (pe_ix ix_seq (pv 2) (pv 6) (fun _ _ => rfl))) pa_nil)))))))
      (pss_one (ps_ret (pe_callTy call_tuple_of (by rfl) T.n_tuple (by decide +kernel) (pa_cons (pv 5) pa_nil)))))))))
theorem ok__law_wide (T : Top K mg c_DIGITS c_GREATEST_NUMBER c_KEPT_WORDS c_LETTERS c_LONGEST_WORD c_MOST_OPEN C_Reader C_CubeError C_FaultyText) {R__law_box : Rel} (g__law_box : Zdef P w K mg base 2 "_law_box" ["script", "at"] R__law_box) {R__law_draw : Rel} (g__law_draw : Zdef P w K mg base 1 "_law_draw" ["box", "many"] R__law_draw) {R__law_leaves : Rel} (g__law_leaves : Zdef P w K mg base 3 "_law_leaves" ["box", "depth", "many"] R__law_leaves) {R__law_plain_leaves : Rel} (g__law_plain_leaves : Zdef P w K mg base 1 "_law_plain_leaves" ["depth", "many"] R__law_plain_leaves) {R__law_word : Rel} (g__law_word : Zdef P w K mg base 2 "_law_word" ["box", "taken"] R__law_word) : Zdef P w K mg base 4 "_law_wide" ["script", "first", "cells_left"] (RelOf K [] (t__law_wide K R__law_box R__law_draw R__law_leaves R__law_plain_leaves R__law_word) 13 3) := by
  obtain ⟨f, fd, F, hm⟩ := T.f__law_wide
  exact def_z F hm sc__law_wide rfl rfl (F.binds fun _ _ _ _ _ _ us hl => match us, hl with | [_, _, _], _ => rfl) fun cdv A outer s H E hr =>
    (pss_cons (ps_set (i := 3) sc__law_wide.nd rfl (Or.inl rfl) (pe_callZ g__law_box hr (by omega) (by rfl) (pa_cons (pv 0) (pa_cons (pv 1) pa_nil))))
      (pss_cons (ps_set (i := 4) sc__law_wide.nd rfl (Or.inl rfl) (pe_lst pa_nil))
      (pss_cons (ps_set (i := 5) sc__law_wide.nd rfl (Or.inl rfl) (pe_lst pa_nil))
      (pss_cons (ps_for PassesOwn.never rfl (pi_range1 (by rfl) T.n_range (pa_cons (pe_op op_add pe_int (pe_callZ g__law_draw hr (by omega) (by rfl) (pa_cons (pv 3) (pa_cons pe_int pa_nil)))) pa_nil)) (pg_name (i := 6) sc__law_wide.nd rfl (Or.inl rfl)) (pss_cons (ps_set (i := 7) sc__law_wide.nd rfl (Or.inl rfl) (pe_callZ g__law_box hr (by omega) (by rfl) (pa_cons (pv 0) (pa_cons (pe_op op_add (pe_op op_add (pv 1) pe_int) (pv 6)) pa_nil))))
      (pss_one (ps_if (pt_cmpR op_ge (pv 2) pe_int (nomark _)) (pss_cons (ps_set (i := 8) sc__law_wide.nd rfl (Or.inl rfl) (pe_op op_add pe_int (pe_callZ g__law_draw hr (by omega) (by rfl) (pa_cons (pv 7) (pa_cons pe_int pa_nil)))))
      (pss_cons (ps_set (i := 9) sc__law_wide.nd rfl (Or.inl rfl) (pe_callB (call_min2 rfl) (by rfl) T.n_min (by decide +kernel) (pa_cons (pe_op op_add pe_int (pe_callZ g__law_draw hr (by omega) (by rfl) (pa_cons (pv 7) (pa_cons pe_int pa_nil)))) (pa_cons (pv 2) pa_nil))))
      (pss_cons (ps_set (i := 10) sc__law_wide.nd rfl (Or.inl rfl) (pe_cmpR op_eq (pe_callZ g__law_draw hr (by omega) (by rfl) (pa_cons (pv 7) (pa_cons pe_int pa_nil))) pe_int (nomark _)))
      (pss_cons (ps_set (i := 11) sc__law_wide.nd rfl (Or.inl rfl) (pe_ifExp (pt_truth (pv 10) (by intro _; rfl)) (pe_callZ g__law_plain_leaves hr (by omega) (by rfl) (pa_cons (pv 8) (pa_cons (pv 9) pa_nil))) (pe_callZ g__law_leaves hr (by omega) (by rfl) (pa_cons (pv 7) (pa_cons (pv 8) (pa_cons (pv 9) pa_nil))))))
      (pss_cons (ps_set (i := 2) sc__law_wide.nd rfl (Or.inl rfl) (pe_op op_fdiv (pv 2) (pe_callB call_len (by rfl) T.n_len (by decide +kernel) (pa_cons (pv 11) pa_nil))))
      (pss_cons (ps_set (i := 12) sc__law_wide.nd rfl (Or.inl rfl) (pe_callZ g__law_word hr (by omega) (by rfl) (pa_cons (pv 7) (pa_cons (pv 5) pa_nil))))
      (pss_cons (ps_expr (pe_bm PySem.F.plainAttrs_list PySem.F.slot_list_append PySem.F.type_list_append mt_append (pv 5) (pa_cons (pv 12) pa_nil)))
      (pss_one (ps_expr (pe_bm PySem.F.plainAttrs_list PySem.F.slot_list_append PySem.F.type_list_append mt_append (pv 4) (pa_cons (pe_tup (pa_cons (pv 12) (pa_cons (pv 11) pa_nil))) pa_nil))))))))))) pss_nil))))
      (pss_one (ps_ret (pe_callTy call_tuple_of (by rfl) T.n_tuple (by decide +kernel) (pa_cons (pv 4) pa_nil))))))))
theorem ok__law_level (T : Top K mg c_DIGITS c_GREATEST_NUMBER c_KEPT_WORDS c_LETTERS c_LONGEST_WORD c_MOST_OPEN C_Reader C_CubeError C_FaultyText) : Zdef P w K mg base 1 "_law_level" ["path"] (RelOf K [] (t__law_level K) 1 1) := by
  obtain ⟨f, fd, F, hm⟩ := T.f__law_level
  exact def_z F hm sc__law_level rfl rfl (F.binds fun _ _ _ _ _ _ us hl => match us, hl with | [_], _ => rfl) fun cdv A outer s H E hr =>
    (pss_cons (ps_if (pt_cmpR op_eq (pv 0) pe_str (nomark _)) (pss_one (ps_ret pe_int)) pss_nil)
      (pss_one (ps_ret (pe_callB call_len (by rfl) T.n_len (by decide +kernel) (pa_cons (pe_split (pv 0) pe_str) pa_nil)))))
theorem ok__law_gap (T : Top K mg c_DIGITS c_GREATEST_NUMBER c_KEPT_WORDS c_LETTERS c_LONGEST_WORD c_MOST_OPEN C_Reader C_CubeError C_FaultyText) {R__law_draw : Rel} (g__law_draw : Zdef P w K mg base 1 "_law_draw" ["box", "many"] R__law_draw) : Zdef P w K mg base 2 "_law_gap" ["box"] (RelOf K [0] (Pr.t__law_gap K R__law_draw) 1 1) := by
  obtain ⟨f, fd, F, hm⟩ := T.f__law_gap
  exact def_z F hm sc__law_gap rfl rfl (F.binds fun _ _ _ _ _ _ us hl => match us, hl with | [_], _ => rfl) fun cdv A outer s H E hr =>
    (pss_one (ps_ret (pe_slice sl_str pe_str po_none (po_some (pe_callZ g__law_draw hr (by omega) (by rfl) (pa_cons (pv 0) (pa_cons pe_int pa_nil)))))))
theorem ok__law_a_condition (T : Top K mg c_DIGITS c_GREATEST_NUMBER c_KEPT_WORDS c_LETTERS c_LONGEST_WORD c_MOST_OPEN C_Reader C_CubeError C_FaultyText) {R__law_draw : Rel} (g__law_draw : Zdef P w K mg base 1 "_law_draw" ["box", "many"] R__law_draw) {R__law_level : Rel} (g__law_level : Zdef P w K mg base 1 "_law_level" ["path"] R__law_level) {R__law_prefix : Rel} (g__law_prefix : Zdef P w K mg base 1 "_law_prefix" ["path", "level"] R__law_prefix) : Zdef P w K mg base 2 "_law_a_condition" ["box", "dimensions"] (RelOf K [0] (Pr.t__law_a_condition K R__law_draw R__law_level R__law_prefix) 6 2) := by
  obtain ⟨f, fd, F, hm⟩ := T.f__law_a_condition
  exact def_z F hm sc__law_a_condition rfl rfl (F.binds fun _ _ _ _ _ _ us hl => match us, hl with | [_, _], _ => rfl) fun cdv A outer s H E hr =>
    (pss_cons (ps_set (i := 2) sc__law_a_condition.nd rfl (Or.inl rfl) (pe_ix ix_seq (pv 1) (pe_callZ g__law_draw hr (by omega) (by rfl) (pa_cons (pv 0) (pa_cons (pe_callB call_len (by rfl) T.n_len (by decide +kernel) (pa_cons (pv 1) pa_nil)) pa_nil))) (fun _ _ => rfl)))
      (pss_cons (ps_set (i := 3) sc__law_a_condition.nd rfl (Or.inl rfl) (pe_lst pa_nil))
      (pss_cons (ps_for PassesOwn.never rfl (pi_range1 (by rfl) T.n_range (pa_cons (pe_op op_add pe_int (pe_callZ g__law_draw hr (by omega) (by rfl) (pa_cons (pv 0) (pa_cons pe_int pa_nil)))) pa_nil)) (pg_name (i := 4) sc__law_a_condition.nd rfl (Or.inl rfl)) (pss_cons (ps_set (i := 5) sc__law_a_condition.nd rfl (Or.inl rfl) (pe_ix ix_seq (pe_ix ix_seq (pv 2) pe_int (fun _ _ => rfl)) (pe_callZ g__law_draw hr (by omega) (by rfl) (pa_cons (pv 0) (pa_cons (pe_callB call_len (by rfl) T.n_len (by decide +kernel) (pa_cons (pe_ix ix_seq (pv 2) pe_int (fun _ _ => rfl)) pa_nil)) pa_nil))) (fun _ _ => rfl)))
      (pss_one (ps_expr (pe_bm PySem.F.plainAttrs_list PySem.F.slot_list_append PySem.F.type_list_append mt_append (pv 3) (pa_cons (pe_callZ g__law_prefix hr (by omega) (by rfl) (pa_cons (pv 5) (pa_cons (pe_op op_add pe_int (pe_callZ g__law_draw hr (by omega) (by rfl) (pa_cons (pv 0) (pa_cons (pe_callZ g__law_level hr (by omega) (by rfl) (pa_cons (pv 5) pa_nil)) pa_nil)))) pa_nil))) pa_nil))))))
      (pss_one (ps_ret (pe_tup (pa_cons (pe_ix ix_seq (pv 2) pe_int (fun _ _ => rfl)) (pa_cons (pe_callTy call_tuple_of (by rfl) T.n_tuple (by decide +kernel) (pa_cons (pv 3) pa_nil)) pa_nil))))))))
theorem ok__law_tree {lv : Nat} (hlv : 12 ≤ lv) (T : Top K mg c_DIGITS c_GREATEST_NUMBER c_KEPT_WORDS c_LETTERS c_LONGEST_WORD c_MOST_OPEN C_Reader C_CubeError C_FaultyText) {R__law_a_condition : Rel} (g__law_a_condition : Zdef P w K mg base 2 "_law_a_condition" ["box", "dimensions"] R__law_a_condition) {R__law_draw : Rel} (g__law_draw : Zdef P w K mg base 1 "_law_draw" ["box", "many"] R__law_draw) {R__law_tree : Rel} (g__law_tree : Zdef P w K mg base (lv + 0) "_law_tree" ["box", "dimensions", "depth"] R__law_tree) : Zdef P w K mg base (lv + 1) "_law_tree" ["box", "dimensions", "depth"] (RelOf K [0] (Pr.t__law_tree K R__law_a_condition R__law_draw R__law_tree) 9 3) := by
  obtain ⟨f, fd, F, hm⟩ := T.f__law_tree
  exact def_z F hm sc__law_tree rfl rfl (F.binds fun _ _ _ _ _ _ us hl => match us, hl with | [_, _, _], _ => rfl) fun cdv A outer s H E hr =>
    (pss_cons (ps_set (i := 3) sc__law_tree.nd rfl (Or.inl rfl) (pe_callZ g__law_draw hr (by omega) (by rfl) (pa_cons (pv 0) (pa_cons pe_int pa_nil))))
      (pss_cons (ps_if (PW.pt (pw_or (pt_cmpR op_le (pv 2) pe_int (nomark _)) (pw_or1 (pt_cmpR op_lt (pv 3) pe_int (nomark _))))) (pss_cons (ps_set (i := 4) sc__law_tree.nd rfl (Or.inl rfl) (pe_lst pa_nil))
      (pss_cons (ps_for PassesOwn.never rfl (pi_range1 (by rfl) T.n_range (pa_cons (pe_callZ g__law_draw hr (by omega) (by rfl) (pa_cons (pv 0) (pa_cons pe_int pa_nil))) pa_nil)) (pg_name (i := 5) sc__law_tree.nd rfl (Or.inl rfl)) (pss_cons (ps_set (i := 6) sc__law_tree.nd rfl (Or.inl rfl) (pe_callZ g__law_a_condition hr (by omega) (by rfl) (pa_cons (pv 0) (pa_cons (pv 1) pa_nil))))
      (pss_one (ps_if (pt_cmpR op_notIn_seq (pe_ix ix_seq (pv 6) pe_int (fun _ _ => rfl)) (pe_lc (own := [("other", 8)]) (g := (gName 8)) (tt := tYes) rfl sc__law_tree.nd (pi_list (pv 4)) (blkOk_by (N := ["box", "dimensions", "depth", "kind", "rows", "k", "row", "first", "other"]) (sc := defScope s__law_tree) (by decide +kernel)) (fun _ _ _ _ _ => (pg_name (i := 8) sc__law_tree.nd rfl (Or.inl rfl))) (fun _ _ _ _ _ => pts_nil) (fun _ _ _ _ _ => (pe_ix ix_seq (pv 8) pe_int (fun _ _ => rfl)))) (by with_unfolding_all rfl)) (pss_one (ps_expr (pe_bm PySem.F.plainAttrs_list PySem.F.slot_list_append PySem.F.type_list_append mt_append (pv 4) (pa_cons (pv 6) pa_nil)))) pss_nil))))
      (pss_one (ps_ret (pe_tup (pa_cons pe_str (pa_cons (pe_callTy call_tuple_of (by rfl) T.n_tuple (by decide +kernel) (pa_cons (pv 4) pa_nil)) pa_nil))))))) pss_nil)
      (pss_cons (ps_if (pt_cmpR op_eq (pv 3) pe_int (nomark _)) (pss_one (ps_ret (pe_tup (pa_cons pe_str (pa_cons (pe_ix ix_seq (pe_tup (pa_cons (pe_callZ g__law_draw hr (by omega) (by rfl) (pa_cons (pv 0) (pa_cons pe_int pa_nil))) (pa_cons (pe_callZ g__law_draw hr (by omega) (by rfl) (pa_cons (pv 0) (pa_cons pe_int pa_nil))) (pa_cons (pe_callZ g__law_draw hr (by omega) (by rfl) (pa_cons (pv 0) (pa_cons pe_int pa_nil))) pa_nil)))) (pe_callZ g__law_draw hr (by omega) (by rfl) (pa_cons (pv 0) (pa_cons pe_int pa_nil))) (fun _ _ => rfl)) (pa_cons (pe_callZ g__law_tree hr (by omega) (by rfl) (pa_cons (pv 0) (pa_cons (pv 1) (pa_cons (pe_op op_sub (pv 2) pe_int) pa_nil)))) pa_nil)))))) pss_nil)
      (pss_cons (ps_if (pt_cmpR op_eq (pv 3) pe_int (nomark _)) (pss_one (ps_ret (pe_tup (pa_cons pe_str (pa_cons (pe_callZ g__law_tree hr (by omega) (by rfl) (pa_cons (pv 0) (pa_cons (pv 1) (pa_cons (pe_op op_sub (pv 2) pe_int) pa_nil)))) pa_nil))))) pss_nil)
      (pss_cons (ps_set (i := 7) sc__law_tree.nd rfl (Or.inl rfl) (pe_callZ g__law_tree hr (by omega) (by rfl) (pa_cons (pv 0) (pa_cons (pv 1) (pa_cons (pe_op op_sub (pv 2) pe_int) pa_nil)))))
      (pss_one (ps_ret (pe_tup (pa_cons (pe_ifExp (pt_cmpR op_lt (pv 3) pe_int (nomark _)) pe_str pe_str) (pa_cons (pv 7) (pa_cons (pe_callZ g__law_tree hr (by omega) (by rfl) (pa_cons (pv 0) (pa_cons (pv 1) (pa_cons (pe_op op_sub (pv 2) pe_int) pa_nil)))) pa_nil)))))))))))
theorem ok__law_conditions_text (T : Top K mg c_DIGITS c_GREATEST_NUMBER c_KEPT_WORDS c_LETTERS c_LONGEST_WORD c_MOST_OPEN C_Reader C_CubeError C_FaultyText) {R__law_gap : Rel} (g__law_gap : Zdef P w K mg base 2 "_law_gap" ["box"] R__law_gap) : Zdef P w K mg base 3 "_law_conditions_text" ["box", "conditions"] (RelOf K [0] (Pr.t__law_conditions_text K R__law_gap) 6 2) := by
  obtain ⟨f, fd, F, hm⟩ := T.f__law_conditions_text
  exact def_z F hm sc__law_conditions_text rfl rfl (F.binds fun _ _ _ _ _ _ us hl => match us, hl with | [_, _], _ => rfl) fun cdv A outer s H E hr =>
    (pss_cons (ps_set (i := 2) sc__law_conditions_text.nd rfl (Or.inl rfl) (pe_lst pa_nil))
      (pss_cons (ps_for PassesOwn.never rfl (pi_tup (pv 1)) (pg_name (i := 3) sc__law_conditions_text.nd rfl (Or.inl rfl)) (pss_cons (ps_set (i := 4) sc__law_conditions_text.nd rfl (Or.inr rfl) (pe_callZ g__law_gap hr (by omega) (by rfl) (pa_cons (pv 0) pa_nil)))
      (pss_one (ps_expr (pe_bm PySem.F.plainAttrs_list PySem.F.slot_list_append PySem.F.type_list_append mt_append (pv 2) (pa_cons (pe_op op_add_str (pe_op op_add_str (pe_ix ix_seq (pv 3) pe_int (fun _ _ => rfl)) pe_str) (pe_joinT (pe1_opL op_add_str (pe1_opR op_add_str (pv 4) pe1_str) (pv 4)) (pet_lc (own := [("path", 5)]) (g := (gName 5)) rfl sc__law_conditions_text.nd (pi_tup (pe_ix ix_seq (pv 3) pe_int (fun _ _ => rfl))) (blkOk_by (N := ["box", "conditions", "rows", "row", "gap", "path"]) (sc := defScope s__law_conditions_text) (by decide +kernel)) (fun _ _ _ _ _ => (pg_name (i := 5) sc__law_conditions_text.nd rfl (Or.inl rfl))) (fun _ _ _ _ _ => pet_replG T.nb (pv 5) (pv 4))))) pa_nil))))))
      (pss_one (ps_ret (pe_op op_add_str pe_str (pe_join pe_str (pv 2)))))))
theorem ok__law_factor_text {lv : Nat} (hlv : 12 ≤ lv) (T : Top K mg c_DIGITS c_GREATEST_NUMBER c_KEPT_WORDS c_LETTERS c_LONGEST_WORD c_MOST_OPEN C_Reader C_CubeError C_FaultyText) {R__law_conditions_text : Rel} (g__law_conditions_text : Zdef P w K mg base 3 "_law_conditions_text" ["box", "conditions"] R__law_conditions_text) {R__law_draw : Rel} (g__law_draw : Zdef P w K mg base 1 "_law_draw" ["box", "many"] R__law_draw) {R__law_gap : Rel} (g__law_gap : Zdef P w K mg base 2 "_law_gap" ["box"] R__law_gap) {R__law_tree_text : Rel} (g__law_tree_text : Zdef P w K mg base (lv + 0) "_law_tree_text" ["box", "tree"] R__law_tree_text) : Zdef P w K mg base (lv + 1) "_law_factor_text" ["box", "tree"] (RelOf K [0] (Pr.t__law_factor_text K R__law_conditions_text R__law_draw R__law_gap R__law_tree_text) 2 2) := by
  obtain ⟨f, fd, F, hm⟩ := T.f__law_factor_text
  exact def_z F hm sc__law_factor_text rfl rfl (F.binds fun _ _ _ _ _ _ us hl => match us, hl with | [_, _], _ => rfl) fun cdv A outer s H E hr =>
    (pss_cons (ps_if (PW.pt (pw_and (pt_cmpR op_eq (pe_ix ix_seq (pv 1) pe_int (fun _ _ => rfl)) pe_str (nomark _)) (pw_and1 (pt_cmpR op_gt (pe_callZ g__law_draw hr (by omega) (by rfl) (pa_cons (pv 0) (pa_cons pe_int pa_nil))) pe_int (nomark _))))) (pss_one (ps_ret (pe_op op_add_str pe_str (pe_ifExp (pt_cmpR op_gt (pe_callB call_len (by rfl) T.n_len (by decide +kernel) (pa_cons (pe_ix ix_seq (pv 1) pe_int (fun _ _ => rfl)) pa_nil)) pe_int (nomark _)) (pe_callZ g__law_conditions_text hr (by omega) (by rfl) (pa_cons (pv 0) (pa_cons (pe_ix ix_seq (pv 1) pe_int (fun _ _ => rfl)) pa_nil))) pe_str)))) pss_nil)
      (pss_cons (ps_if (pt_cmpR op_eq (pe_ix ix_seq (pv 1) pe_int (fun _ _ => rfl)) pe_str (nomark _)) (pss_one (ps_ret (pe_op op_add_str (pe_op op_add_str (pe_op op_add_str pe_str (pe_ifExp (pt_cmpR op_gt (pe_callB call_len (by rfl) T.n_len (by decide +kernel) (pa_cons (pe_ix ix_seq (pv 1) pe_int (fun _ _ => rfl)) pa_nil)) pe_int (nomark _)) (pe_callZ g__law_conditions_text hr (by omega) (by rfl) (pa_cons (pv 0) (pa_cons (pe_ix ix_seq (pv 1) pe_int (fun _ _ => rfl)) pa_nil))) pe_str)) (pe_callZ g__law_gap hr (by omega) (by rfl) (pa_cons (pv 0) pa_nil))) pe_str))) pss_nil)
      (pss_one (ps_ret (pe_op op_add_str (pe_op op_add_str (pe_op op_add_str pe_str (pe_callZ g__law_gap hr (by omega) (by rfl) (pa_cons (pv 0) pa_nil))) (pe_callZ g__law_tree_text hr (by omega) (by rfl) (pa_cons (pv 0) (pa_cons (pv 1) pa_nil)))) pe_str)))))
theorem ok__law_term_text {lv : Nat} (hlv : 12 ≤ lv) (T : Top K mg c_DIGITS c_GREATEST_NUMBER c_KEPT_WORDS c_LETTERS c_LONGEST_WORD c_MOST_OPEN C_Reader C_CubeError C_FaultyText) {R__law_factor_text : Rel} (g__law_factor_text : Zdef P w K mg base (lv + 1) "_law_factor_text" ["box", "tree"] R__law_factor_text) {R__law_gap : Rel} (g__law_gap : Zdef P w K mg base 2 "_law_gap" ["box"] R__law_gap) : Zdef P w K mg base (lv + 2) "_law_term_text" ["box", "tree"] (RelOf K [0] (Pr.t__law_term_text K R__law_factor_text R__law_gap) 2 2) := by
  obtain ⟨f, fd, F, hm⟩ := T.f__law_term_text
  exact def_z F hm sc__law_term_text rfl rfl (F.binds fun _ _ _ _ _ _ us hl => match us, hl with | [_, _], _ => rfl) fun cdv A outer s H E hr =>
    (pss_cons (ps_if (pt_cmpR op_eq (pe_ix ix_seq (pv 1) pe_int (fun _ _ => rfl)) pe_str (nomark _)) (pss_one (ps_ret (pe_op op_add_str (pe_op op_add_str (pe_op op_add_str (pe_op op_add_str (pe_callTy call_str_int (by rfl) T.n_str (by decide +kernel) (pa_cons (pe_ix ix_seq (pv 1) pe_int (fun _ _ => rfl)) pa_nil)) (pe_callZ g__law_gap hr (by omega) (by rfl) (pa_cons (pv 0) pa_nil))) pe_str) (pe_callZ g__law_gap hr (by omega) (by rfl) (pa_cons (pv 0) pa_nil))) (pe_callZ g__law_factor_text hr (by omega) (by rfl) (pa_cons (pv 0) (pa_cons (pe_ix ix_seq (pv 1) pe_int (fun _ _ => rfl)) pa_nil)))))) pss_nil)
      (pss_one (ps_ret (pe_callZ g__law_factor_text hr (by omega) (by rfl) (pa_cons (pv 0) (pa_cons (pv 1) pa_nil))))))
theorem ok__law_tree_text {lv : Nat} (hlv : 12 ≤ lv) (T : Top K mg c_DIGITS c_GREATEST_NUMBER c_KEPT_WORDS c_LETTERS c_LONGEST_WORD c_MOST_OPEN C_Reader C_CubeError C_FaultyText) {R__law_gap : Rel} (g__law_gap : Zdef P w K mg base 2 "_law_gap" ["box"] R__law_gap) {R__law_term_text : Rel} (g__law_term_text : Zdef P w K mg base (lv + 2) "_law_term_text" ["box", "tree"] R__law_term_text) {R__law_tree_text : Rel} (g__law_tree_text : Zdef P w K mg base (lv + 0) "_law_tree_text" ["box", "tree"] R__law_tree_text) : Zdef P w K mg base (lv + 3) "_law_tree_text" ["box", "tree"] (RelOf K [0] (Pr.t__law_tree_text K R__law_gap R__law_term_text R__law_tree_text) 3 2) := by
  obtain ⟨f, fd, F, hm⟩ := T.f__law_tree_text
  exact def_z F hm sc__law_tree_text rfl rfl (F.binds fun _ _ _ _ _ _ us hl => match us, hl with | [_, _], _ => rfl) fun cdv A outer s H E hr =>
    (pss_cons (ps_if (PW.pt (pw_or (pt_cmpR op_eq (pe_ix ix_seq (pv 1) pe_int (fun _ _ => rfl)) pe_str (nomark _)) (pw_or1 (pt_cmpR op_eq (pe_ix ix_seq (pv 1) pe_int (fun _ _ => rfl)) pe_str (nomark _))))) (pss_cons (ps_set (i := 2) sc__law_tree_text.nd rfl (Or.inl rfl) (pe_ifExp (pt_cmpR op_eq (pe_ix ix_seq (pv 1) pe_int (fun _ _ => rfl)) pe_str (nomark _)) pe_str pe_str))
      (pss_one (ps_ret (pe_op op_add_str (pe_op op_add_str (pe_op op_add_str (pe_op op_add_str (pe_callZ g__law_tree_text hr (by omega) (by rfl) (pa_cons (pv 0) (pa_cons (pe_ix ix_seq (pv 1) pe_int (fun _ _ => rfl)) pa_nil))) (pe_callZ g__law_gap hr (by omega) (by rfl) (pa_cons (pv 0) pa_nil))) (pv 2)) (pe_callZ g__law_gap hr (by omega) (by rfl) (pa_cons (pv 0) pa_nil))) (pe_callZ g__law_term_text hr (by omega) (by rfl) (pa_cons (pv 0) (pa_cons (pe_ix ix_seq (pv 1) pe_int (fun _ _ => rfl)) pa_nil))))))) pss_nil)
      (pss_cons (ps_if (pt_cmpR op_eq (pe_ix ix_seq (pv 1) pe_int (fun _ _ => rfl)) pe_str (nomark _)) (pss_one (ps_ret (pe_op op_add_str (pe_op op_add_str pe_str (pe_callZ g__law_gap hr (by omega) (by rfl) (pa_cons (pv 0) pa_nil))) (pe_callZ g__law_term_text hr (by omega) (by rfl) (pa_cons (pv 0) (pa_cons (pe_ix ix_seq (pv 1) pe_int (fun _ _ => rfl)) pa_nil)))))) pss_nil)
      (pss_one (ps_ret (pe_callZ g__law_term_text hr (by omega) (by rfl) (pa_cons (pv 0) (pa_cons (pv 1) pa_nil)))))))
theorem ok_law (T : Top K mg c_DIGITS c_GREATEST_NUMBER c_KEPT_WORDS c_LETTERS c_LONGEST_WORD c_MOST_OPEN C_Reader C_CubeError C_FaultyText) {R__law_box : Rel} (g__law_box : Zdef P w K mg base 2 "_law_box" ["script", "at"] R__law_box) {R__law_same : Rel} (g__law_same : Zdef P w K mg base 9 "_law_same" ["actual", "due"] R__law_same) {R__law_tree : Rel} (g__law_tree : Zdef P w K mg base 16 "_law_tree" ["box", "dimensions", "depth"] R__law_tree) {R__law_tree_text : Rel} (g__law_tree_text : Zdef P w K mg base 24 "_law_tree_text" ["box", "tree"] R__law_tree_text) {R__law_wide : Rel} (g__law_wide : Zdef P w K mg base 4 "_law_wide" ["script", "first", "cells_left"] R__law_wide) {R_read_expression : Rel} (g_read_expression : Zdef P w K mg base 46 "read_expression" ["text"] R_read_expression) : Zdef P w K mg base 48 "law" ["script"] (RelOf K [] (K09.t_law K R__law_box R__law_same R__law_tree R__law_tree_text R__law_wide R_read_expression) 5 1) := by
  obtain ⟨f, fd, F, hm⟩ := T.f_law
  exact def_z F hm sc_law rfl rfl (F.binds fun _ _ _ _ _ _ us hl => match us, hl with | [_], _ => rfl) fun cdv A outer s H E hr =>
    (pss_cons (ps_set (i := 1) sc_law.nd rfl (Or.inl rfl) (pe_callZ g__law_wide hr (by omega) (by rfl) (pa_cons (pv 0) (pa_cons pe_int (pa_cons pe_int pa_nil)))))
      (pss_cons (ps_for PassesOwn.never rfl (pi_range1 (by rfl) T.n_range (pa_cons pe_int pa_nil)) (pg_name (i := 2) sc_law.nd rfl (Or.inl rfl)) (pss_cons (ps_set (i := 3) sc_law.nd rfl (Or.inl rfl) (pe_callZ g__law_tree hr (by omega) (by rfl) (pa_cons (pe_callZ g__law_box hr (by omega) (by rfl) (pa_cons (pv 0) (pa_cons (pe_op op_add pe_int (pv 2)) pa_nil))) (pa_cons (pv 1) (pa_cons (pe_op op_add pe_int (pv 2)) pa_nil)))))
      (pss_cons (ps_set (i := 4) sc_law.nd rfl (Or.inl rfl) (pe_callZ g__law_tree_text hr (by omega) (by rfl) (pa_cons (pe_callZ g__law_box hr (by omega) (by rfl) (pa_cons (pv 0) (pa_cons (pe_op op_add pe_int (pv 2)) pa_nil))) (pa_cons (pv 3) pa_nil))))
      (pss_one (ps_if (PW.pt (pw_and (pt_cmpR op_le (pe_callB call_len (by rfl) T.n_len (by decide +kernel) (pa_cons (pv 4) pa_nil)) pe_int (nomark _)) (pw_and1 (pt_not (pt_val (pe_callZ g__law_same hr (by omega) (by rfl) (pa_cons (pe_callZ g_read_expression hr (by omega) (by rfl) (pa_cons (pv 4) pa_nil)) (pa_cons (pv 3) pa_nil)))))))) (pss_one (ps_ret pe_bl)) pss_nil)))))
      (pss_one (ps_ret pe_bl))))
theorem nox_Reader_expression (T : Top K mg c_DIGITS c_GREATEST_NUMBER c_KEPT_WORDS c_LETTERS c_LONGEST_WORD c_MOST_OPEN C_Reader C_CubeError C_FaultyText) (k : Nat) : Zmex P w K mg base k C_Reader "expression" ["self"] (fun _ _ _ => False) (fun _ _ _ => False) := by
  obtain ⟨f, fd, F, hm⟩ := T.f_Reader_expression
  exact zmex_none F hm (F.binds fun _ _ _ _ _ _ us hl => match us, hl with | [_], _ => rfl) k
theorem no__law_tree (T : Top K mg c_DIGITS c_GREATEST_NUMBER c_KEPT_WORDS c_LETTERS c_LONGEST_WORD c_MOST_OPEN C_Reader C_CubeError C_FaultyText) (k : Nat) : Zdef P w K mg base k "_law_tree" ["box", "dimensions", "depth"] (fun _ _ _ => False) := by
  obtain ⟨f, fd, F, hm⟩ := T.f__law_tree
  exact zdef_none F hm (F.binds fun _ _ _ _ _ _ us hl => match us, hl with | [_, _, _], _ => rfl) k
theorem no__law_tree_text (T : Top K mg c_DIGITS c_GREATEST_NUMBER c_KEPT_WORDS c_LETTERS c_LONGEST_WORD c_MOST_OPEN C_Reader C_CubeError C_FaultyText) (k : Nat) : Zdef P w K mg base k "_law_tree_text" ["box", "tree"] (fun _ _ _ => False) := by
  obtain ⟨f, fd, F, hm⟩ := T.f__law_tree_text
  exact zdef_none F hm (F.binds fun _ _ _ _ _ _ us hl => match us, hl with | [_, _], _ => rfl) k
end
theorem all_mk {l : PySem.W.OpenLaw} {w : World} {K : PySem.W.Frag} {h : Heap} {mg : Str → Option Value} {fa : Addr} (X : K.In h) (G : h.Ns mainGlobals mg) (hfa : mg "law" = some (.ref fa))
    {C_Reader : Addr} (aC_Reader : PySem.W.nsIn K mainGlobals "Reader" = some (some (.ref C_Reader))) (pg_Reader : PySem.W.plainGet K C_Reader Str.empty = true) (hd_Reader : PySem.W.hasDictIn K C_Reader = true) (po_Reader : PySem.W.plainOver K C_Reader = true) (sa_Reader : PySem.W.findIn K (.ref C_Reader) "__setattr__" = some (some (.builtin "object.__setattr__"))) (mk_Reader : PySem.W.makesIn K C_Reader = true) (kc_Reader : PySem.W.keepIn K (.ref C_Reader) = true)
    (na_Reader_0 : PySem.W.findIn K (.ref C_Reader) "_tokens" = some none)
    (na_Reader_1 : PySem.W.findIn K (.ref C_Reader) "_read" = some none)
    (na_Reader_2 : PySem.W.findIn K (.ref C_Reader) "_held" = some none)
    {C_CubeError : Addr} (aC_CubeError : PySem.W.nsIn K mainGlobals "CubeError" = some (some (.ref C_CubeError)))
    {C_FaultyText : Addr} (aC_FaultyText : PySem.W.nsIn K mainGlobals "FaultyText" = some (some (.ref C_FaultyText)))
    {nm_FaultyText qn_FaultyText : Str} {NN_FaultyText : Addr} {bs_FaultyText : List Value} {sn_FaultyText : List Str} {sub_FaultyText : List Value} {ab_FaultyText : Bool} {col_FaultyText : Option Bool} {dd_FaultyText : Option Addr} {m0_FaultyText m1_FaultyText m2_FaultyText m3_FaultyText m5_FaultyText : Option Value}
    (xL_FaultyText : K.lookup C_FaultyText = some (excClassObj nm_FaultyText qn_FaultyText C_FaultyText NN_FaultyText bs_FaultyText [.ref C_CubeError, .type "ValueError", .type "Exception", .type "BaseException", .type "object"] true sn_FaultyText sub_FaultyText ab_FaultyText col_FaultyText dd_FaultyText m0_FaultyText m1_FaultyText m2_FaultyText m3_FaultyText m5_FaultyText "ValueError.__new__"))
    (sa_FaultyText : PySem.W.findIn K (.ref C_FaultyText) "__setattr__" = some (some (.builtin "object.__setattr__"))) (nb_FaultyText : PySem.W.findIn K (.ref C_FaultyText) "at" = some none) (xk_FaultyText : PySem.W.keepIn K (.ref C_FaultyText) = true) (xs_FaultyText : PySem.W.subIn K (.ref C_FaultyText) (.type "BaseException") = some true) (xt_FaultyText : PySem.W.typeIn K (.ref C_FaultyText) = some (.type "type"))
    (ig_FaultyText : PySem.W.findIn K (.ref C_FaultyText) "__getattribute__" = some (some (.builtin "BaseException.__getattribute__"))) (ik_FaultyText : PySem.W.findIn K (.ref C_FaultyText) "__getattr__" = some none) (id_FaultyText : PySem.W.hasDictIn K C_FaultyText = true) (ia_FaultyText : PySem.W.findIn K (.ref C_FaultyText) "__class__" = some (some (.builtin "object.__class__"))) (im_FaultyText : PySem.W.mroIn K C_FaultyText (.type "object") = some true)
    (in_ : PySem.W.specialIn K (.builtin "object.__class__") "__get__" = some (some (.builtin "getset_descriptor.__get__"))) (it_ : PySem.W.takesIn K (.builtin "object.__class__") = some true)
    (nb_ : PySem.W.nsIn K cStatics sharingNotToldKey = some none)
    {f0 : Addr} {od0 an0 : Option Addr} {sl0 : Array (Option Value)} {oc0 kV0 dc0 pm0 cd0 ct0 : Value}
    (a0 : PySem.W.nsIn K mainGlobals "is_numeral" = some (some (.ref f0))) (l0 : K.lookup f0 = some ⟨oc0, od0, .func (PySem.W.fnOf "is_numeral" "is_numeral" (defArgs s_is_numeral) (defBody s_is_numeral) (defScope s_is_numeral) .none kV0 dc0 pm0 an0 cd0 ct0), sl0⟩) (c0 : PySem.W.codeIn K cd0 "is_numeral" = true) (k0 : PySem.W.keepIn K (.ref f0) = true)
    {f1 : Addr} {od1 an1 : Option Addr} {sl1 : Array (Option Value)} {oc1 kV1 dc1 pm1 cd1 ct1 : Value}
    (a1 : PySem.W.nsIn K mainGlobals "is_word" = some (some (.ref f1))) (l1 : K.lookup f1 = some ⟨oc1, od1, .func (PySem.W.fnOf "is_word" "is_word" (defArgs s_is_word) (defBody s_is_word) (defScope s_is_word) .none kV1 dc1 pm1 an1 cd1 ct1), sl1⟩) (c1 : PySem.W.codeIn K cd1 "is_word" = true) (k1 : PySem.W.keepIn K (.ref f1) = true)
    {f2 : Addr} {od2 an2 : Option Addr} {sl2 : Array (Option Value)} {oc2 kV2 dc2 pm2 cd2 ct2 : Value}
    (a2 : PySem.W.nsIn K mainGlobals "_run_of" = some (some (.ref f2))) (l2 : K.lookup f2 = some ⟨oc2, od2, .func (PySem.W.fnOf "_run_of" "_run_of" (defArgs s__run_of) (defBody s__run_of) (defScope s__run_of) .none kV2 dc2 pm2 an2 cd2 ct2), sl2⟩) (c2 : PySem.W.codeIn K cd2 "_run_of" = true) (k2 : PySem.W.keepIn K (.ref f2) = true)
    {f3 : Addr} {od3 an3 : Option Addr} {sl3 : Array (Option Value)} {oc3 kV3 dc3 pm3 cd3 ct3 : Value}
    (a3 : PySem.W.nsIn K mainGlobals "tokens" = some (some (.ref f3))) (l3 : K.lookup f3 = some ⟨oc3, od3, .func (PySem.W.fnOf "tokens" "tokens" (defArgs s_tokens) (defBody s_tokens) (defScope s_tokens) .none kV3 dc3 pm3 an3 cd3 ct3), sl3⟩) (c3 : PySem.W.codeIn K cd3 "tokens" = true) (k3 : PySem.W.keepIn K (.ref f3) = true)
    {f4 : Addr} {od4 an4 : Option Addr} {sl4 : Array (Option Value)} {oc4 kV4 dc4 pm4 cd4 ct4 : Value}
    (a4 : PySem.W.nsIn K mainGlobals "_is_number" = some (some (.ref f4))) (l4 : K.lookup f4 = some ⟨oc4, od4, .func (PySem.W.fnOf "_is_number" "_is_number" (defArgs s__is_number) (defBody s__is_number) (defScope s__is_number) .none kV4 dc4 pm4 an4 cd4 ct4), sl4⟩) (c4 : PySem.W.codeIn K cd4 "_is_number" = true) (k4 : PySem.W.keepIn K (.ref f4) = true)
    {f5 : Addr} {od5 an5 : Option Addr} {sl5 : Array (Option Value)} {oc5 kV5 dc5 pm5 cd5 ct5 : Value}
    (a5 : PySem.W.findIn K (.ref C_FaultyText) "__init__" = some (some (.ref f5))) (i5 : PySem.W.typeIn K (.ref f5) = some (.type "function")) (l5 : K.lookup f5 = some ⟨oc5, od5, .func (PySem.W.fnOf "__init__" "FaultyText.__init__" (defArgs s_FaultyText___init__) (defBody s_FaultyText___init__) (defScope s_FaultyText___init__) .none kV5 dc5 pm5 an5 cd5 ct5), sl5⟩) (c5 : PySem.W.codeIn K cd5 "FaultyText.__init__" = true) (k5 : PySem.W.keepIn K (.ref f5) = true)
    {f6 : Addr} {od6 an6 : Option Addr} {sl6 : Array (Option Value)} {oc6 kV6 dc6 pm6 cd6 ct6 : Value}
    (a6 : PySem.W.findIn K (.ref C_Reader) "__init__" = some (some (.ref f6))) (i6 : PySem.W.isFn K (.ref f6) = true) (l6 : K.lookup f6 = some ⟨oc6, od6, .func (PySem.W.fnOf "__init__" "Reader.__init__" (defArgs s_Reader___init__) (defBody s_Reader___init__) (defScope s_Reader___init__) .none kV6 dc6 pm6 an6 cd6 ct6), sl6⟩) (c6 : PySem.W.codeIn K cd6 "Reader.__init__" = true) (k6 : PySem.W.keepIn K (.ref f6) = true)
    {f7 : Addr} {od7 an7 : Option Addr} {sl7 : Array (Option Value)} {oc7 kV7 dc7 pm7 cd7 ct7 : Value}
    (a7 : PySem.W.findIn K (.ref C_Reader) "_peek" = some (some (.ref f7))) (i7 : PySem.W.isFn K (.ref f7) = true) (l7 : K.lookup f7 = some ⟨oc7, od7, .func (PySem.W.fnOf "_peek" "Reader._peek" (defArgs s_Reader__peek) (defBody s_Reader__peek) (defScope s_Reader__peek) .none kV7 dc7 pm7 an7 cd7 ct7), sl7⟩) (c7 : PySem.W.codeIn K cd7 "Reader._peek" = true) (k7 : PySem.W.keepIn K (.ref f7) = true)
    {f8 : Addr} {od8 an8 : Option Addr} {sl8 : Array (Option Value)} {oc8 kV8 dc8 pm8 cd8 ct8 : Value}
    (a8 : PySem.W.findIn K (.ref C_Reader) "_take" = some (some (.ref f8))) (i8 : PySem.W.isFn K (.ref f8) = true) (l8 : K.lookup f8 = some ⟨oc8, od8, .func (PySem.W.fnOf "_take" "Reader._take" (defArgs s_Reader__take) (defBody s_Reader__take) (defScope s_Reader__take) .none kV8 dc8 pm8 an8 cd8 ct8), sl8⟩) (c8 : PySem.W.codeIn K cd8 "Reader._take" = true) (k8 : PySem.W.keepIn K (.ref f8) = true)
    {f9 : Addr} {od9 an9 : Option Addr} {sl9 : Array (Option Value)} {oc9 kV9 dc9 pm9 cd9 ct9 : Value}
    (a9 : PySem.W.findIn K (.ref C_Reader) "_skip" = some (some (.ref f9))) (i9 : PySem.W.isFn K (.ref f9) = true) (l9 : K.lookup f9 = some ⟨oc9, od9, .func (PySem.W.fnOf "_skip" "Reader._skip" (defArgs s_Reader__skip) (defBody s_Reader__skip) (defScope s_Reader__skip) .none kV9 dc9 pm9 an9 cd9 ct9), sl9⟩) (c9 : PySem.W.codeIn K cd9 "Reader._skip" = true) (k9 : PySem.W.keepIn K (.ref f9) = true)
    {f10 : Addr} {od10 an10 : Option Addr} {sl10 : Array (Option Value)} {oc10 kV10 dc10 pm10 cd10 ct10 : Value}
    (a10 : PySem.W.findIn K (.ref C_Reader) "_refuse" = some (some (.ref f10))) (i10 : PySem.W.isFn K (.ref f10) = true) (l10 : K.lookup f10 = some ⟨oc10, od10, .func (PySem.W.fnOf "_refuse" "Reader._refuse" (defArgs s_Reader__refuse) (defBody s_Reader__refuse) (defScope s_Reader__refuse) .none kV10 dc10 pm10 an10 cd10 ct10), sl10⟩) (c10 : PySem.W.codeIn K cd10 "Reader._refuse" = true) (k10 : PySem.W.keepIn K (.ref f10) = true)
    {f11 : Addr} {od11 an11 : Option Addr} {sl11 : Array (Option Value)} {oc11 kV11 dc11 pm11 cd11 ct11 : Value}
    (a11 : PySem.W.findIn K (.ref C_Reader) "_expect" = some (some (.ref f11))) (i11 : PySem.W.isFn K (.ref f11) = true) (l11 : K.lookup f11 = some ⟨oc11, od11, .func (PySem.W.fnOf "_expect" "Reader._expect" (defArgs s_Reader__expect) (defBody s_Reader__expect) (defScope s_Reader__expect) .none kV11 dc11 pm11 an11 cd11 ct11), sl11⟩) (c11 : PySem.W.codeIn K cd11 "Reader._expect" = true) (k11 : PySem.W.keepIn K (.ref f11) = true)
    {f12 : Addr} {od12 an12 : Option Addr} {sl12 : Array (Option Value)} {oc12 kV12 dc12 pm12 cd12 ct12 : Value}
    (a12 : PySem.W.findIn K (.ref C_Reader) "_word" = some (some (.ref f12))) (i12 : PySem.W.isFn K (.ref f12) = true) (l12 : K.lookup f12 = some ⟨oc12, od12, .func (PySem.W.fnOf "_word" "Reader._word" (defArgs s_Reader__word) (defBody s_Reader__word) (defScope s_Reader__word) .none kV12 dc12 pm12 an12 cd12 ct12), sl12⟩) (c12 : PySem.W.codeIn K cd12 "Reader._word" = true) (k12 : PySem.W.keepIn K (.ref f12) = true)
    {f13 : Addr} {od13 an13 : Option Addr} {sl13 : Array (Option Value)} {oc13 kV13 dc13 pm13 cd13 ct13 : Value}
    (a13 : PySem.W.findIn K (.ref C_Reader) "finish" = some (some (.ref f13))) (i13 : PySem.W.isFn K (.ref f13) = true) (l13 : K.lookup f13 = some ⟨oc13, od13, .func (PySem.W.fnOf "finish" "Reader.finish" (defArgs s_Reader_finish) (defBody s_Reader_finish) (defScope s_Reader_finish) .none kV13 dc13 pm13 an13 cd13 ct13), sl13⟩) (c13 : PySem.W.codeIn K cd13 "Reader.finish" = true) (k13 : PySem.W.keepIn K (.ref f13) = true)
    {f14 : Addr} {od14 an14 : Option Addr} {sl14 : Array (Option Value)} {oc14 kV14 dc14 pm14 cd14 ct14 : Value}
    (a14 : PySem.W.findIn K (.ref C_Reader) "_path" = some (some (.ref f14))) (i14 : PySem.W.isFn K (.ref f14) = true) (l14 : K.lookup f14 = some ⟨oc14, od14, .func (PySem.W.fnOf "_path" "Reader._path" (defArgs s_Reader__path) (defBody s_Reader__path) (defScope s_Reader__path) .none kV14 dc14 pm14 an14 cd14 ct14), sl14⟩) (c14 : PySem.W.codeIn K cd14 "Reader._path" = true) (k14 : PySem.W.keepIn K (.ref f14) = true)
    {f15 : Addr} {od15 an15 : Option Addr} {sl15 : Array (Option Value)} {oc15 kV15 dc15 pm15 cd15 ct15 : Value}
    (a15 : PySem.W.findIn K (.ref C_Reader) "_condition" = some (some (.ref f15))) (i15 : PySem.W.isFn K (.ref f15) = true) (l15 : K.lookup f15 = some ⟨oc15, od15, .func (PySem.W.fnOf "_condition" "Reader._condition" (defArgs s_Reader__condition) (defBody s_Reader__condition) (defScope s_Reader__condition) .none kV15 dc15 pm15 an15 cd15 ct15), sl15⟩) (c15 : PySem.W.codeIn K cd15 "Reader._condition" = true) (k15 : PySem.W.keepIn K (.ref f15) = true)
    {f16 : Addr} {od16 an16 : Option Addr} {sl16 : Array (Option Value)} {oc16 kV16 dc16 pm16 cd16 ct16 : Value}
    (a16 : PySem.W.findIn K (.ref C_Reader) "_conditions" = some (some (.ref f16))) (i16 : PySem.W.isFn K (.ref f16) = true) (l16 : K.lookup f16 = some ⟨oc16, od16, .func (PySem.W.fnOf "_conditions" "Reader._conditions" (defArgs s_Reader__conditions) (defBody s_Reader__conditions) (defScope s_Reader__conditions) .none kV16 dc16 pm16 an16 cd16 ct16), sl16⟩) (c16 : PySem.W.codeIn K cd16 "Reader._conditions" = true) (k16 : PySem.W.keepIn K (.ref f16) = true)
    {f17 : Addr} {od17 an17 : Option Addr} {sl17 : Array (Option Value)} {oc17 kV17 dc17 pm17 cd17 ct17 : Value}
    (a17 : PySem.W.findIn K (.ref C_Reader) "_factor" = some (some (.ref f17))) (i17 : PySem.W.isFn K (.ref f17) = true) (l17 : K.lookup f17 = some ⟨oc17, od17, .func (PySem.W.fnOf "_factor" "Reader._factor" (defArgs s_Reader__factor) (defBody s_Reader__factor) (defScope s_Reader__factor) .none kV17 dc17 pm17 an17 cd17 ct17), sl17⟩) (c17 : PySem.W.codeIn K cd17 "Reader._factor" = true) (k17 : PySem.W.keepIn K (.ref f17) = true)
    {f18 : Addr} {od18 an18 : Option Addr} {sl18 : Array (Option Value)} {oc18 kV18 dc18 pm18 cd18 ct18 : Value}
    (a18 : PySem.W.findIn K (.ref C_Reader) "_term" = some (some (.ref f18))) (i18 : PySem.W.isFn K (.ref f18) = true) (l18 : K.lookup f18 = some ⟨oc18, od18, .func (PySem.W.fnOf "_term" "Reader._term" (defArgs s_Reader__term) (defBody s_Reader__term) (defScope s_Reader__term) .none kV18 dc18 pm18 an18 cd18 ct18), sl18⟩) (c18 : PySem.W.codeIn K cd18 "Reader._term" = true) (k18 : PySem.W.keepIn K (.ref f18) = true)
    {f19 : Addr} {od19 an19 : Option Addr} {sl19 : Array (Option Value)} {oc19 kV19 dc19 pm19 cd19 ct19 : Value}
    (a19 : PySem.W.findIn K (.ref C_Reader) "expression" = some (some (.ref f19))) (i19 : PySem.W.isFn K (.ref f19) = true) (l19 : K.lookup f19 = some ⟨oc19, od19, .func (PySem.W.fnOf "expression" "Reader.expression" (defArgs s_Reader_expression) (defBody s_Reader_expression) (defScope s_Reader_expression) .none kV19 dc19 pm19 an19 cd19 ct19), sl19⟩) (c19 : PySem.W.codeIn K cd19 "Reader.expression" = true) (k19 : PySem.W.keepIn K (.ref f19) = true)
    {f20 : Addr} {od20 an20 : Option Addr} {sl20 : Array (Option Value)} {oc20 kV20 dc20 pm20 cd20 ct20 : Value}
    (a20 : PySem.W.nsIn K mainGlobals "read_expression" = some (some (.ref f20))) (l20 : K.lookup f20 = some ⟨oc20, od20, .func (PySem.W.fnOf "read_expression" "read_expression" (defArgs s_read_expression) (defBody s_read_expression) (defScope s_read_expression) .none kV20 dc20 pm20 an20 cd20 ct20), sl20⟩) (c20 : PySem.W.codeIn K cd20 "read_expression" = true) (k20 : PySem.W.keepIn K (.ref f20) = true)
    {f21 : Addr} {od21 an21 : Option Addr} {sl21 : Array (Option Value)} {oc21 kV21 dc21 pm21 cd21 ct21 : Value}
    (a21 : PySem.W.nsIn K mainGlobals "_law_cell" = some (some (.ref f21))) (l21 : K.lookup f21 = some ⟨oc21, od21, .func (PySem.W.fnOf "_law_cell" "_law_cell" (defArgs s__law_cell) (defBody s__law_cell) (defScope s__law_cell) .none kV21 dc21 pm21 an21 cd21 ct21), sl21⟩) (c21 : PySem.W.codeIn K cd21 "_law_cell" = true) (k21 : PySem.W.keepIn K (.ref f21) = true)
    {f22 : Addr} {od22 an22 : Option Addr} {sl22 : Array (Option Value)} {oc22 kV22 dc22 pm22 cd22 ct22 : Value}
    (a22 : PySem.W.nsIn K mainGlobals "_law_digits" = some (some (.ref f22))) (l22 : K.lookup f22 = some ⟨oc22, od22, .func (PySem.W.fnOf "_law_digits" "_law_digits" (defArgs s__law_digits) (defBody s__law_digits) (defScope s__law_digits) .none kV22 dc22 pm22 an22 cd22 ct22), sl22⟩) (c22 : PySem.W.codeIn K cd22 "_law_digits" = true) (k22 : PySem.W.keepIn K (.ref f22) = true)
    {f23 : Addr} {od23 an23 : Option Addr} {sl23 : Array (Option Value)} {oc23 kV23 dc23 pm23 cd23 ct23 : Value}
    (a23 : PySem.W.nsIn K mainGlobals "_law_box" = some (some (.ref f23))) (l23 : K.lookup f23 = some ⟨oc23, od23, .func (PySem.W.fnOf "_law_box" "_law_box" (defArgs s__law_box) (defBody s__law_box) (defScope s__law_box) .none kV23 dc23 pm23 an23 cd23 ct23), sl23⟩) (c23 : PySem.W.codeIn K cd23 "_law_box" = true) (k23 : PySem.W.keepIn K (.ref f23) = true)
    {f24 : Addr} {od24 an24 : Option Addr} {sl24 : Array (Option Value)} {oc24 kV24 dc24 pm24 cd24 ct24 : Value}
    (a24 : PySem.W.nsIn K mainGlobals "_law_draw" = some (some (.ref f24))) (l24 : K.lookup f24 = some ⟨oc24, od24, .func (PySem.W.fnOf "_law_draw" "_law_draw" (defArgs s__law_draw) (defBody s__law_draw) (defScope s__law_draw) .none kV24 dc24 pm24 an24 cd24 ct24), sl24⟩) (c24 : PySem.W.codeIn K cd24 "_law_draw" = true) (k24 : PySem.W.keepIn K (.ref f24) = true)
    {f25 : Addr} {od25 an25 : Option Addr} {sl25 : Array (Option Value)} {oc25 kV25 dc25 pm25 cd25 ct25 : Value}
    (a25 : PySem.W.nsIn K mainGlobals "_law_is_integer" = some (some (.ref f25))) (l25 : K.lookup f25 = some ⟨oc25, od25, .func (PySem.W.fnOf "_law_is_integer" "_law_is_integer" (defArgs s__law_is_integer) (defBody s__law_is_integer) (defScope s__law_is_integer) .none kV25 dc25 pm25 an25 cd25 ct25), sl25⟩) (c25 : PySem.W.codeIn K cd25 "_law_is_integer" = true) (k25 : PySem.W.keepIn K (.ref f25) = true)
    {f26 : Addr} {od26 an26 : Option Addr} {sl26 : Array (Option Value)} {oc26 kV26 dc26 pm26 cd26 ct26 : Value}
    (a26 : PySem.W.nsIn K mainGlobals "_law_same" = some (some (.ref f26))) (l26 : K.lookup f26 = some ⟨oc26, od26, .func (PySem.W.fnOf "_law_same" "_law_same" (defArgs s__law_same) (defBody s__law_same) (defScope s__law_same) .none kV26 dc26 pm26 an26 cd26 ct26), sl26⟩) (c26 : PySem.W.codeIn K cd26 "_law_same" = true) (k26 : PySem.W.keepIn K (.ref f26) = true)
    {f27 : Addr} {od27 an27 : Option Addr} {sl27 : Array (Option Value)} {oc27 kV27 dc27 pm27 cd27 ct27 : Value}
    (a27 : PySem.W.nsIn K mainGlobals "_law_word" = some (some (.ref f27))) (l27 : K.lookup f27 = some ⟨oc27, od27, .func (PySem.W.fnOf "_law_word" "_law_word" (defArgs s__law_word) (defBody s__law_word) (defScope s__law_word) .none kV27 dc27 pm27 an27 cd27 ct27), sl27⟩) (c27 : PySem.W.codeIn K cd27 "_law_word" = true) (k27 : PySem.W.keepIn K (.ref f27) = true)
    {f28 : Addr} {od28 an28 : Option Addr} {sl28 : Array (Option Value)} {oc28 kV28 dc28 pm28 cd28 ct28 : Value}
    (a28 : PySem.W.nsIn K mainGlobals "_law_leaves" = some (some (.ref f28))) (l28 : K.lookup f28 = some ⟨oc28, od28, .func (PySem.W.fnOf "_law_leaves" "_law_leaves" (defArgs s__law_leaves) (defBody s__law_leaves) (defScope s__law_leaves) .none kV28 dc28 pm28 an28 cd28 ct28), sl28⟩) (c28 : PySem.W.codeIn K cd28 "_law_leaves" = true) (k28 : PySem.W.keepIn K (.ref f28) = true)
    {f29 : Addr} {od29 an29 : Option Addr} {sl29 : Array (Option Value)} {oc29 kV29 dc29 pm29 cd29 ct29 : Value}
    (a29 : PySem.W.nsIn K mainGlobals "_law_prefix" = some (some (.ref f29))) (l29 : K.lookup f29 = some ⟨oc29, od29, .func (PySem.W.fnOf "_law_prefix" "_law_prefix" (defArgs s__law_prefix) (defBody s__law_prefix) (defScope s__law_prefix) .none kV29 dc29 pm29 an29 cd29 ct29), sl29⟩) (c29 : PySem.W.codeIn K cd29 "_law_prefix" = true) (k29 : PySem.W.keepIn K (.ref f29) = true)
    {f30 : Addr} {od30 an30 : Option Addr} {sl30 : Array (Option Value)} {oc30 kV30 dc30 pm30 cd30 ct30 : Value}
    (a30 : PySem.W.nsIn K mainGlobals "_law_plain_leaves" = some (some (.ref f30))) (l30 : K.lookup f30 = some ⟨oc30, od30, .func (PySem.W.fnOf "_law_plain_leaves" "_law_plain_leaves" (defArgs s__law_plain_leaves) (defBody s__law_plain_leaves) (defScope s__law_plain_leaves) .none kV30 dc30 pm30 an30 cd30 ct30), sl30⟩) (c30 : PySem.W.codeIn K cd30 "_law_plain_leaves" = true) (k30 : PySem.W.keepIn K (.ref f30) = true)
    {f31 : Addr} {od31 an31 : Option Addr} {sl31 : Array (Option Value)} {oc31 kV31 dc31 pm31 cd31 ct31 : Value}
    (a31 : PySem.W.nsIn K mainGlobals "_law_wide" = some (some (.ref f31))) (l31 : K.lookup f31 = some ⟨oc31, od31, .func (PySem.W.fnOf "_law_wide" "_law_wide" (defArgs s__law_wide) (defBody s__law_wide) (defScope s__law_wide) .none kV31 dc31 pm31 an31 cd31 ct31), sl31⟩) (c31 : PySem.W.codeIn K cd31 "_law_wide" = true) (k31 : PySem.W.keepIn K (.ref f31) = true)
    {f32 : Addr} {od32 an32 : Option Addr} {sl32 : Array (Option Value)} {oc32 kV32 dc32 pm32 cd32 ct32 : Value}
    (a32 : PySem.W.nsIn K mainGlobals "_law_level" = some (some (.ref f32))) (l32 : K.lookup f32 = some ⟨oc32, od32, .func (PySem.W.fnOf "_law_level" "_law_level" (defArgs s__law_level) (defBody s__law_level) (defScope s__law_level) .none kV32 dc32 pm32 an32 cd32 ct32), sl32⟩) (c32 : PySem.W.codeIn K cd32 "_law_level" = true) (k32 : PySem.W.keepIn K (.ref f32) = true)
    {f33 : Addr} {od33 an33 : Option Addr} {sl33 : Array (Option Value)} {oc33 kV33 dc33 pm33 cd33 ct33 : Value}
    (a33 : PySem.W.nsIn K mainGlobals "_law_gap" = some (some (.ref f33))) (l33 : K.lookup f33 = some ⟨oc33, od33, .func (PySem.W.fnOf "_law_gap" "_law_gap" (defArgs s__law_gap) (defBody s__law_gap) (defScope s__law_gap) .none kV33 dc33 pm33 an33 cd33 ct33), sl33⟩) (c33 : PySem.W.codeIn K cd33 "_law_gap" = true) (k33 : PySem.W.keepIn K (.ref f33) = true)
    {f34 : Addr} {od34 an34 : Option Addr} {sl34 : Array (Option Value)} {oc34 kV34 dc34 pm34 cd34 ct34 : Value}
    (a34 : PySem.W.nsIn K mainGlobals "_law_a_condition" = some (some (.ref f34))) (l34 : K.lookup f34 = some ⟨oc34, od34, .func (PySem.W.fnOf "_law_a_condition" "_law_a_condition" (defArgs s__law_a_condition) (defBody s__law_a_condition) (defScope s__law_a_condition) .none kV34 dc34 pm34 an34 cd34 ct34), sl34⟩) (c34 : PySem.W.codeIn K cd34 "_law_a_condition" = true) (k34 : PySem.W.keepIn K (.ref f34) = true)
    {f35 : Addr} {od35 an35 : Option Addr} {sl35 : Array (Option Value)} {oc35 kV35 dc35 pm35 cd35 ct35 : Value}
    (a35 : PySem.W.nsIn K mainGlobals "_law_tree" = some (some (.ref f35))) (l35 : K.lookup f35 = some ⟨oc35, od35, .func (PySem.W.fnOf "_law_tree" "_law_tree" (defArgs s__law_tree) (defBody s__law_tree) (defScope s__law_tree) .none kV35 dc35 pm35 an35 cd35 ct35), sl35⟩) (c35 : PySem.W.codeIn K cd35 "_law_tree" = true) (k35 : PySem.W.keepIn K (.ref f35) = true)
    {f36 : Addr} {od36 an36 : Option Addr} {sl36 : Array (Option Value)} {oc36 kV36 dc36 pm36 cd36 ct36 : Value}
    (a36 : PySem.W.nsIn K mainGlobals "_law_conditions_text" = some (some (.ref f36))) (l36 : K.lookup f36 = some ⟨oc36, od36, .func (PySem.W.fnOf "_law_conditions_text" "_law_conditions_text" (defArgs s__law_conditions_text) (defBody s__law_conditions_text) (defScope s__law_conditions_text) .none kV36 dc36 pm36 an36 cd36 ct36), sl36⟩) (c36 : PySem.W.codeIn K cd36 "_law_conditions_text" = true) (k36 : PySem.W.keepIn K (.ref f36) = true)
    {f37 : Addr} {od37 an37 : Option Addr} {sl37 : Array (Option Value)} {oc37 kV37 dc37 pm37 cd37 ct37 : Value}
    (a37 : PySem.W.nsIn K mainGlobals "_law_factor_text" = some (some (.ref f37))) (l37 : K.lookup f37 = some ⟨oc37, od37, .func (PySem.W.fnOf "_law_factor_text" "_law_factor_text" (defArgs s__law_factor_text) (defBody s__law_factor_text) (defScope s__law_factor_text) .none kV37 dc37 pm37 an37 cd37 ct37), sl37⟩) (c37 : PySem.W.codeIn K cd37 "_law_factor_text" = true) (k37 : PySem.W.keepIn K (.ref f37) = true)
    {f38 : Addr} {od38 an38 : Option Addr} {sl38 : Array (Option Value)} {oc38 kV38 dc38 pm38 cd38 ct38 : Value}
    (a38 : PySem.W.nsIn K mainGlobals "_law_term_text" = some (some (.ref f38))) (l38 : K.lookup f38 = some ⟨oc38, od38, .func (PySem.W.fnOf "_law_term_text" "_law_term_text" (defArgs s__law_term_text) (defBody s__law_term_text) (defScope s__law_term_text) .none kV38 dc38 pm38 an38 cd38 ct38), sl38⟩) (c38 : PySem.W.codeIn K cd38 "_law_term_text" = true) (k38 : PySem.W.keepIn K (.ref f38) = true)
    {f39 : Addr} {od39 an39 : Option Addr} {sl39 : Array (Option Value)} {oc39 kV39 dc39 pm39 cd39 ct39 : Value}
    (a39 : PySem.W.nsIn K mainGlobals "_law_tree_text" = some (some (.ref f39))) (l39 : K.lookup f39 = some ⟨oc39, od39, .func (PySem.W.fnOf "_law_tree_text" "_law_tree_text" (defArgs s__law_tree_text) (defBody s__law_tree_text) (defScope s__law_tree_text) .none kV39 dc39 pm39 an39 cd39 ct39), sl39⟩) (c39 : PySem.W.codeIn K cd39 "_law_tree_text" = true) (k39 : PySem.W.keepIn K (.ref f39) = true)
    {f40 : Addr} {od40 an40 : Option Addr} {sl40 : Array (Option Value)} {oc40 kV40 dc40 pm40 cd40 ct40 : Value}
    (a40 : PySem.W.nsIn K mainGlobals "law" = some (some (.ref f40))) (l40 : K.lookup f40 = some ⟨oc40, od40, .func (PySem.W.fnOf "law" "law" (defArgs s_law) (defBody s_law) (defScope s_law) .none kV40 dc40 pm40 an40 cd40 ct40), sl40⟩) (c40 : PySem.W.codeIn K cd40 "law" = true) (k40 : PySem.W.keepIn K (.ref f40) = true)
    (n_all : PySem.W.nsIn K mainGlobals "all" = some none)
    (n_bool : PySem.W.nsIn K mainGlobals "bool" = some none)
    (n_int : PySem.W.nsIn K mainGlobals "int" = some none)
    (n_isinstance : PySem.W.nsIn K mainGlobals "isinstance" = some none)
    (n_len : PySem.W.nsIn K mainGlobals "len" = some none)
    (n_min : PySem.W.nsIn K mainGlobals "min" = some none)
    (n_range : PySem.W.nsIn K mainGlobals "range" = some none)
    (n_sorted : PySem.W.nsIn K mainGlobals "sorted" = some none)
    (n_str : PySem.W.nsIn K mainGlobals "str" = some none)
    (n_tuple : PySem.W.nsIn K mainGlobals "tuple" = some none)
    {t_DIGITS : Tok} (v_DIGITS : PySem.W.nsIn K mainGlobals "DIGITS" = some (some (.str dgS t_DIGITS)))
    {t_GREATEST_NUMBER : Tok} (v_GREATEST_NUMBER : PySem.W.nsIn K mainGlobals "GREATEST_NUMBER" = some (some (.int 1000 t_GREATEST_NUMBER)))
    {a_KEPT_WORDS : Addr} {t_KEPT_WORDS_0 t_KEPT_WORDS_1 t_KEPT_WORDS_2 t_KEPT_WORDS_3 n_KEPT_WORDS : Nat} {oc_KEPT_WORDS : Option Addr} {sl_KEPT_WORDS : Array (Option Value)} (v_KEPT_WORDS : PySem.W.nsIn K mainGlobals "KEPT_WORDS" = some (some (.ref a_KEPT_WORDS))) (u_KEPT_WORDS : K.lookup a_KEPT_WORDS = some ⟨.type "tuple", oc_KEPT_WORDS, .seq #[.str "sum" t_KEPT_WORDS_0, .str "where" t_KEPT_WORDS_1, .str "in" t_KEPT_WORDS_2, .str "and" t_KEPT_WORDS_3] n_KEPT_WORDS, sl_KEPT_WORDS⟩)
    {t_LETTERS : Tok} (v_LETTERS : PySem.W.nsIn K mainGlobals "LETTERS" = some (some (.str letS t_LETTERS)))
    {t_LONGEST_WORD : Tok} (v_LONGEST_WORD : PySem.W.nsIn K mainGlobals "LONGEST_WORD" = some (some (.int 8 t_LONGEST_WORD)))
    {t_MOST_OPEN : Tok} (v_MOST_OPEN : PySem.W.nsIn K mainGlobals "MOST_OPEN" = some (some (.int 10 t_MOST_OPEN)))
    : ∃ fd : FuncData, (∀ (s : Shared) (v : Value), BindsTo s fd ⟨[v], []⟩ [("script", v)]) ∧ ∀ base : Heap, K.In base → base.Ns mainGlobals mg → FnOk l.prog w K mg base CX0 48 fa fd ["script"] (SpLaw K) := by
  have e := hfa.symm.trans (PySem.W.mg_of X G a40)
  cases e
  have T : Top K mg (.str dgS) (.int 1000) (.ref a_KEPT_WORDS) (.str letS) (.int 8) (.int 10) C_Reader C_CubeError C_FaultyText := ⟨PySem.W.mg_none_of X G n_all, PySem.W.mg_none_of X G n_bool, PySem.W.mg_none_of X G n_int, PySem.W.mg_none_of X G n_isinstance, PySem.W.mg_none_of X G n_len, PySem.W.mg_none_of X G n_min, PySem.W.mg_none_of X G n_range, PySem.W.mg_none_of X G n_sorted, PySem.W.mg_none_of X G n_str, PySem.W.mg_none_of X G n_tuple, ⟨_, PySem.W.mg_of X G v_DIGITS, _, rfl⟩, ⟨_, PySem.W.mg_of X G v_GREATEST_NUMBER, _, rfl⟩, ⟨_, PySem.W.mg_of X G v_KEPT_WORDS, rfl⟩, ⟨_, PySem.W.mg_of X G v_LETTERS, _, rfl⟩, ⟨_, PySem.W.mg_of X G v_LONGEST_WORD, _, rfl⟩, ⟨_, PySem.W.mg_of X G v_MOST_OPEN, _, rfl⟩, ⟨pg_Reader, hd_Reader, po_Reader, sa_Reader⟩, PySem.W.mg_of X G aC_Reader, na_reader na_Reader_0 na_Reader_1 na_Reader_2, PySem.W.mg_of X G aC_CubeError, PySem.W.mg_of X G aC_FaultyText, ⟨ig_FaultyText, ik_FaultyText, xs_FaultyText, id_FaultyText, ia_FaultyText, in_, it_, im_FaultyText⟩, ⟨ig_FaultyText, ik_FaultyText, xs_FaultyText, id_FaultyText⟩, nb_FaultyText, ⟨⟨_, _, _, _, _, _, _, _, _, _, _, _, _, _, _, xL_FaultyText, rfl⟩, sa_FaultyText, xs_FaultyText, xt_FaultyText, xk_FaultyText⟩, ⟨_, _, fun_mk (st := s_is_numeral) l0 c0 k0, PySem.W.mg_of X G a0⟩, ⟨_, _, fun_mk (st := s_is_word) l1 c1 k1, PySem.W.mg_of X G a1⟩, ⟨_, _, fun_mk (st := s__run_of) l2 c2 k2, PySem.W.mg_of X G a2⟩, ⟨_, _, fun_mk (st := s_tokens) l3 c3 k3, PySem.W.mg_of X G a3⟩, ⟨_, _, fun_mk (st := s__is_number) l4 c4 k4, PySem.W.mg_of X G a4⟩, ⟨_, _, fun_mk (st := s_FaultyText___init__) l5 c5 k5, a5, i5⟩, ⟨_, _, fun_mk (st := s_Reader___init__) l6 c6 k6, ⟨mk_Reader, a6, i6, kc_Reader⟩⟩, ⟨_, _, fun_mk (st := s_Reader__peek) l7 c7 k7, ⟨a7, i7, k7⟩⟩, ⟨_, _, fun_mk (st := s_Reader__take) l8 c8 k8, ⟨a8, i8, k8⟩⟩, ⟨_, _, fun_mk (st := s_Reader__skip) l9 c9 k9, ⟨a9, i9, k9⟩⟩, ⟨_, _, fun_mk (st := s_Reader__refuse) l10 c10 k10, ⟨a10, i10, k10⟩⟩, ⟨_, _, fun_mk (st := s_Reader__expect) l11 c11 k11, ⟨a11, i11, k11⟩⟩, ⟨_, _, fun_mk (st := s_Reader__word) l12 c12 k12, ⟨a12, i12, k12⟩⟩, ⟨_, _, fun_mk (st := s_Reader_finish) l13 c13 k13, ⟨a13, i13, k13⟩⟩, ⟨_, _, fun_mk (st := s_Reader__path) l14 c14 k14, ⟨a14, i14, k14⟩⟩, ⟨_, _, fun_mk (st := s_Reader__condition) l15 c15 k15, ⟨a15, i15, k15⟩⟩, ⟨_, _, fun_mk (st := s_Reader__conditions) l16 c16 k16, ⟨a16, i16, k16⟩⟩, ⟨_, _, fun_mk (st := s_Reader__factor) l17 c17 k17, ⟨a17, i17, k17⟩⟩, ⟨_, _, fun_mk (st := s_Reader__term) l18 c18 k18, ⟨a18, i18, k18⟩⟩, ⟨_, _, fun_mk (st := s_Reader_expression) l19 c19 k19, ⟨a19, i19, k19⟩⟩, ⟨_, _, fun_mk (st := s_read_expression) l20 c20 k20, PySem.W.mg_of X G a20⟩, ⟨_, _, fun_mk (st := s__law_cell) l21 c21 k21, PySem.W.mg_of X G a21⟩, ⟨_, _, fun_mk (st := s__law_digits) l22 c22 k22, PySem.W.mg_of X G a22⟩, ⟨_, _, fun_mk (st := s__law_box) l23 c23 k23, PySem.W.mg_of X G a23⟩, ⟨_, _, fun_mk (st := s__law_draw) l24 c24 k24, PySem.W.mg_of X G a24⟩, ⟨_, _, fun_mk (st := s__law_is_integer) l25 c25 k25, PySem.W.mg_of X G a25⟩, ⟨_, _, fun_mk (st := s__law_same) l26 c26 k26, PySem.W.mg_of X G a26⟩, ⟨_, _, fun_mk (st := s__law_word) l27 c27 k27, PySem.W.mg_of X G a27⟩, ⟨_, _, fun_mk (st := s__law_leaves) l28 c28 k28, PySem.W.mg_of X G a28⟩, ⟨_, _, fun_mk (st := s__law_prefix) l29 c29 k29, PySem.W.mg_of X G a29⟩, ⟨_, _, fun_mk (st := s__law_plain_leaves) l30 c30 k30, PySem.W.mg_of X G a30⟩, ⟨_, _, fun_mk (st := s__law_wide) l31 c31 k31, PySem.W.mg_of X G a31⟩, ⟨_, _, fun_mk (st := s__law_level) l32 c32 k32, PySem.W.mg_of X G a32⟩, ⟨_, _, fun_mk (st := s__law_gap) l33 c33 k33, PySem.W.mg_of X G a33⟩, ⟨_, _, fun_mk (st := s__law_a_condition) l34 c34 k34, PySem.W.mg_of X G a34⟩, ⟨_, _, fun_mk (st := s__law_tree) l35 c35 k35, PySem.W.mg_of X G a35⟩, ⟨_, _, fun_mk (st := s__law_conditions_text) l36 c36 k36, PySem.W.mg_of X G a36⟩, ⟨_, _, fun_mk (st := s__law_factor_text) l37 c37 k37, PySem.W.mg_of X G a37⟩, ⟨_, _, fun_mk (st := s__law_term_text) l38 c38 k38, PySem.W.mg_of X G a38⟩, ⟨_, _, fun_mk (st := s__law_tree_text) l39 c39 k39, PySem.W.mg_of X G a39⟩, ⟨_, _, fun_mk (st := s_law) l40 c40 k40, PySem.W.mg_of X G a40⟩, nb_⟩
  have d_DIGITS : ∀ H, Dz K H (.str dgS) (.str dgS) := fun _ => .str _
  have d_GREATEST_NUMBER : ∀ H, Dz K H (.int 1000) (.int 1000) := fun _ => .int _
  have d_KEPT_WORDS : ∀ H, DzR K H (.ref a_KEPT_WORDS) (.tup (keptS.map .str)) := dz_kept u_KEPT_WORDS rfl rfl (by show 4 ≤ sizeLine; decide) (xs := [.str "sum", .str "where", .str "in", .str "and"]) (.cons ⟨_, rfl⟩ (.cons ⟨_, rfl⟩ (.cons ⟨_, rfl⟩ (.cons ⟨_, rfl⟩ .nil)))) (fun _ => (.cons (.str _) (.cons (.str _) (.cons (.str _) (.cons (.str _) .nil)))))
  have d_LETTERS : ∀ H, Dz K H (.str letS) (.str letS) := fun _ => .str _
  have d_LONGEST_WORD : ∀ H, Dz K H (.int 8) (.int 8) := fun _ => .int _
  have d_MOST_OPEN : ∀ H, Dz K H (.int 10) (.int 10) := fun _ => .int _
  refine ⟨PySem.W.fnOf "law" "law" (defArgs s_law) (defBody s_law) (defScope s_law) .none kV40 dc40 pm40 an40 cd40 ct40, fun s v => .of_eq rfl, fun base _ _ => ?_⟩
  have fin : ∀ {R : Rel}, (∀ ns : List Int, R [.fr (.lst (ns.map .int))] (.fr (.bl true)) [.fr (.lst (ns.map .int))]) → Zdef l.prog w K mg base 48 "law" ["script"] R → FnOk l.prog w K mg base CX0 48 fa (PySem.W.fnOf "law" "law" (defArgs s_law) (defBody s_law) (defScope s_law) .none kV40 dc40 pm40 an40 cd40 ct40) ["script"] (SpLaw K) := fun hR Z => law_fd Z hfa l40 (law_imp hR)
  have gis_numeral := ok_is_numeral (base := base) (P := l.prog) (w := w) T 
  have gis_word := ok_is_word (base := base) (P := l.prog) (w := w) T 
  have g_run_of := ok__run_of (base := base) (P := l.prog) (w := w) T 
  have gtokens := ok_tokens (base := base) (P := l.prog) (w := w) T g_run_of
  have g_is_number := ok__is_number (base := base) (P := l.prog) (w := w) T gis_numeral
  have gi_FaultyText := oki_FaultyText (base := base) (P := l.prog) (w := w) T
  have gReader := ok_Reader (base := base) (P := l.prog) (w := w) T 
  have gReader__peek := ok_Reader__peek (base := base) (P := l.prog) (w := w) T 
  have gReader__take := ok_Reader__take (base := base) (P := l.prog) (w := w) T gReader__peek
  have gReader__skip := ok_Reader__skip (base := base) (P := l.prog) (w := w) T gReader__peek gReader__take
  have gxReader__refuse := okx_Reader__refuse (base := base) (P := l.prog) (w := w) T gi_FaultyText
  have gxReader__expect := okx_Reader__expect (base := base) (P := l.prog) (w := w) T gReader__skip gxReader__refuse
  have gxReader__word := okx_Reader__word (base := base) (P := l.prog) (w := w) T gReader__peek gReader__take gxReader__refuse gis_word
  have gxReader_finish := okx_Reader_finish (base := base) (P := l.prog) (w := w) T gxReader__refuse
  have gxReader__path := okx_Reader__path (base := base) (P := l.prog) (w := w) T gReader__skip gxReader__word
  have gxReader__condition := okx_Reader__condition (base := base) (P := l.prog) (w := w) T gReader__skip gxReader__expect gxReader__path gxReader__word
  have gxReader__conditions := okx_Reader__conditions (base := base) (P := l.prog) (w := w) T gReader__skip gxReader__condition
  have g_law_cell := ok__law_cell (base := base) (P := l.prog) (w := w) T 
  have g_law_digits := ok__law_digits (base := base) (P := l.prog) (w := w) T 
  have g_law_box := ok__law_box (base := base) (P := l.prog) (w := w) T g_law_cell g_law_digits
  have g_law_draw := ok__law_draw (base := base) (P := l.prog) (w := w) T 
  have g_law_is_integer := ok__law_is_integer (base := base) (P := l.prog) (w := w) T 
  have g_law_same := (ok__law_same (lv := 7) (base := base) (P := l.prog) (w := w) T g_law_is_integer (ok__law_same (lv := 6) (base := base) (P := l.prog) (w := w) T g_law_is_integer (ok__law_same (lv := 5) (base := base) (P := l.prog) (w := w) T g_law_is_integer (ok__law_same (lv := 4) (base := base) (P := l.prog) (w := w) T g_law_is_integer (ok__law_same (lv := 3) (base := base) (P := l.prog) (w := w) T g_law_is_integer (ok__law_same (lv := 2) (base := base) (P := l.prog) (w := w) T g_law_is_integer (ok__law_same (lv := 1) (base := base) (P := l.prog) (w := w) T g_law_is_integer (ok__law_same (lv := 0) (base := base) (P := l.prog) (w := w) T g_law_is_integer (no__law_same T 1)))))))))
  have g_law_word := ok__law_word (base := base) (P := l.prog) (w := w) T g_law_draw
  have g_law_leaves := ok__law_leaves (base := base) (P := l.prog) (w := w) T g_law_draw g_law_word
  have g_law_prefix := ok__law_prefix (base := base) (P := l.prog) (w := w) T 
  have g_law_plain_leaves := ok__law_plain_leaves (base := base) (P := l.prog) (w := w) T 
  have g_law_wide := ok__law_wide (base := base) (P := l.prog) (w := w) T g_law_box g_law_draw g_law_leaves g_law_plain_leaves g_law_word
  have g_law_level := ok__law_level (base := base) (P := l.prog) (w := w) T 
  have g_law_gap := ok__law_gap (base := base) (P := l.prog) (w := w) T g_law_draw
  have g_law_a_condition := ok__law_a_condition (base := base) (P := l.prog) (w := w) T g_law_draw g_law_level g_law_prefix
  have g_law_conditions_text := ok__law_conditions_text (base := base) (P := l.prog) (w := w) T g_law_gap
  have nar := T.na_Reader
  have cr := T.cls_Reader
  have sw := sem_is_word (K := K) d_KEPT_WORDS d_LETTERS d_LONGEST_WORD
  have rpk := rel_pk (K := K) cr nar
  have rtk := rel_tk (K := K) cr nar rpk
  have rsk := rel_sk (K := K) rpk rtk
  have rrf := Pr.rel_rf (K := K) (CF := C_FaultyText) cr nar
  have dex := fun (t : Str) (ht : t ≠ "") => Pr.do_ex (K := K) (Rr := RelOfE K [0] (fun E => Pr.tx_Reader__refuse K C_FaultyText E) 1 1) rsk rrf t ht
  have dwd := Pr.do_wd (K := K) (Rr := RelOfE K [0] (fun E => Pr.tx_Reader__refuse K C_FaultyText E) 1 1) rpk rtk sw rrf
  have dfn := Pr.do_fn (K := K) (Rr := RelOfE K [0] (fun E => Pr.tx_Reader__refuse K C_FaultyText E) 1 1) cr nar rrf
  have dpa := Pr.do_path (K := K) rsk dwd
  have dcd := Pr.do_cd (K := K) rsk dex dpa dwd
  have dcs := Pr.do_cs (K := K) rsk dcd
  have dnn := Pr.rel_nn (K := K) d_GREATEST_NUMBER (rel_nm (K := K) d_DIGITS)
  have LV : ∀ k, k ≤ 11 → ∃ (R : Rel) (RX : RelX), Zmex l.prog w K mg base (12 + 3 * k) C_Reader "expression" ["self"] R RX ∧ Pr.DoB C_Reader C_FaultyText (11 - k) R RX fun h l => Pr.pExp (Pr.pAt (10 - h)) l := by
    intro k
    induction k with
    | zero => exact fun _ => ⟨_, _, nox_Reader_expression T 12, Pr.do_none⟩
    | succ k ih =>
      intro hk
      obtain ⟨R, RX, g, d⟩ := ih (by omega)
      have e : 11 - k = (11 - (k + 1)) + 1 := by omega
      rw [e] at d
      have hl : 12 ≤ 12 + 3 * k := by omega
      have g1 := okx_Reader__factor (base := base) (P := l.prog) (w := w) hl T gReader__skip gxReader__conditions gxReader__expect gxReader__refuse g
      have g2 := okx_Reader__term (base := base) (P := l.prog) (w := w) hl T gReader__peek gReader__take gxReader__expect g1 g_is_number
      have g3 := okx_Reader_expression (base := base) (P := l.prog) (w := w) hl T gReader__peek gReader__skip gReader__take g2
      exact ⟨_, _, g3, Pr.do_exp rpk rsk rtk (Pr.do_trm rpk rtk dex dnn (Pr.do_fac cr nar d_MOST_OPEN rsk dcs dex rrf d))⟩
  obtain ⟨RE, RXE, gxReader_expression, dB⟩ := LV 11 (by decide)
  have gxread_expression := okx_read_expression (base := base) (P := l.prog) (w := w) T gReader gxReader_expression gxReader_finish gtokens
  have rrd := Pr.do_rd (K := K) (rel_ri (K := K) cr nar) dB dfn (rel_tokens (K := K) (rel_run (K := K) d_DIGITS d_LETTERS))
  have g_law_tree0 := ok__law_tree (lv := 12) (base := base) (P := l.prog) (w := w) (by decide) T g_law_a_condition g_law_draw (no__law_tree T 12)
  have g_law_tree1 := ok__law_tree (lv := 13) (base := base) (P := l.prog) (w := w) (by decide) T g_law_a_condition g_law_draw g_law_tree0
  have g_law_tree2 := ok__law_tree (lv := 14) (base := base) (P := l.prog) (w := w) (by decide) T g_law_a_condition g_law_draw g_law_tree1
  have g_law_tree3 := ok__law_tree (lv := 15) (base := base) (P := l.prog) (w := w) (by decide) T g_law_a_condition g_law_draw g_law_tree2
  have gF0 := ok__law_factor_text (lv := 12) (base := base) (P := l.prog) (w := w) (by decide) T g_law_conditions_text g_law_draw g_law_gap (no__law_tree_text T 12)
  have gM0 := ok__law_term_text (lv := 12) (base := base) (P := l.prog) (w := w) (by decide) T gF0 g_law_gap
  have gT0 := ok__law_tree_text (lv := 12) (base := base) (P := l.prog) (w := w) (by decide) T g_law_gap gM0 (no__law_tree_text T 12)
  have gF1 := ok__law_factor_text (lv := 15) (base := base) (P := l.prog) (w := w) (by decide) T g_law_conditions_text g_law_draw g_law_gap gT0
  have gM1 := ok__law_term_text (lv := 15) (base := base) (P := l.prog) (w := w) (by decide) T gF1 g_law_gap
  have gT1 := ok__law_tree_text (lv := 15) (base := base) (P := l.prog) (w := w) (by decide) T g_law_gap gM1 gT0
  have gF2 := ok__law_factor_text (lv := 18) (base := base) (P := l.prog) (w := w) (by decide) T g_law_conditions_text g_law_draw g_law_gap gT1
  have gM2 := ok__law_term_text (lv := 18) (base := base) (P := l.prog) (w := w) (by decide) T gF2 g_law_gap
  have gT2 := ok__law_tree_text (lv := 18) (base := base) (P := l.prog) (w := w) (by decide) T g_law_gap gM2 gT1
  have gF3 := ok__law_factor_text (lv := 21) (base := base) (P := l.prog) (w := w) (by decide) T g_law_conditions_text g_law_draw g_law_gap gT2
  have gM3 := ok__law_term_text (lv := 21) (base := base) (P := l.prog) (w := w) (by decide) T gF3 g_law_gap
  have gT3 := ok__law_tree_text (lv := 21) (base := base) (P := l.prog) (w := w) (by decide) T g_law_gap gM3 gT2
  have z := ok_law (base := base) (P := l.prog) (w := w) T g_law_box g_law_same g_law_tree3 gT3 g_law_wide (zdef_calm gxread_expression)
  refine fin (fun ns => ?_) z
  have sd := sem_draw (K := K)
  have slw := rel_word (K := K) sd
  have sbox := sem_box (K := K) (sem_cell (K := K)) (sem_digits (K := K))
  have rco := Pr.rel_co (K := K) sd (rel_level (K := K)) (rel_prefix (K := K))
  have gap := Pr.rel_gap (K := K) sd
  have cct := Pr.rel_ct (K := K) gap
  have t0 := Pr.tree_0 (K := K) (Rt := fun _ _ _ => False) sd rco
  have t1 := Pr.tree_up (K := K) sd rco t0
  have t2 := Pr.tree_up (K := K) sd rco t1
  have t3 := Pr.tree_up (K := K) sd rco t2
  have x1 := Pr.text_up (K := K) (k := 0) (by decide) sd gap cct (Pr.tx_none (R := fun _ _ _ => False))
  have x2 := Pr.text_up (K := K) (k := 1) (by decide) sd gap cct x1
  have x3 := Pr.text_up (K := K) (k := 2) (by decide) sd gap cct x2
  have x4 := Pr.text_up (K := K) (k := 3) (by decide) sd gap cct x3
  have ss := (sem_same (K := K) (n := 7) (Ri := RelOf K [] (t__law_is_integer K) 1 1) sem_is_integer (sem_same (K := K) (n := 6) (Ri := RelOf K [] (t__law_is_integer K) 1 1) sem_is_integer (sem_same (K := K) (n := 5) (Ri := RelOf K [] (t__law_is_integer K) 1 1) sem_is_integer (sem_same (K := K) (n := 4) (Ri := RelOf K [] (t__law_is_integer K) 1 1) sem_is_integer (sem_same (K := K) (n := 3) (Ri := RelOf K [] (t__law_is_integer K) 1 1) sem_is_integer (sem_same (K := K) (n := 2) (Ri := RelOf K [] (t__law_is_integer K) 1 1) sem_is_integer (sem_same (K := K) (n := 1) (Ri := RelOf K [] (t__law_is_integer K) 1 1) sem_is_integer (sem_same (K := K) (n := 0) (Ri := RelOf K [] (t__law_is_integer K) 1 1) (Rs := fun _ _ _ => False) sem_is_integer (fun cs h => by obtain ⟨d, _, h⟩ := h; cases h)))))))))
  exact K09.sem_law (rel_wide sbox sd (rel_leaves (K := K) sd slw) rel_plain slw) sbox ss t3 x4 rrd ns
end Z
open PySem PySem.W PyProof.Rows
set_option maxHeartbeats 0 in
theorem PySem.Challenge.cw_cubesums_k09_expressions_read_holds : PySem.Challenge.rw_cubesums_k09_expressions_read.Holds := by
  w_on; o_law; k_head; (case hw => w_witness2)
  k_fill
  refine L2.walk_of (l := PySem.Challenge.rw_cubesums_k09_expressions_read) (n := 63) (k := 48) (x := "script") (CX := fun _ => L2.CX0) (sp := fun w => Z.SpLaw _) rfl (by decide) rfl ⟨rfl, by decide, by decide⟩ (fun w h Y => PySem.W.kIn_of Y) ?F (fun _ _ a ns hl _ hS => ⟨a, ns, rfl, hS, fun _ => rfl⟩) (fun _ _ _ _ _ h => h)
  case F =>
    intro w mg fa h KX G hmg
    refine' Z.all_mk KX G hmg ?aC_Reader ?pg_Reader ?hd_Reader ?po_Reader ?sa_Reader ?mk_Reader ?kc_Reader ?na_Reader_0 ?na_Reader_1 ?na_Reader_2 ?aC_CubeError ?aC_FaultyText ?xL_FaultyText ?sa_FaultyText ?nb_FaultyText ?xk_FaultyText ?xs_FaultyText ?xt_FaultyText ?ig_FaultyText ?ik_FaultyText ?id_FaultyText ?ia_FaultyText ?im_FaultyText ?in_ ?it_ ?nb_ ?a0 ?l0 ?c0 ?k0 ?a1 ?l1 ?c1 ?k1 ?a2 ?l2 ?c2 ?k2 ?a3 ?l3 ?c3 ?k3 ?a4 ?l4 ?c4 ?k4 ?a5 ?i5 ?l5 ?c5 ?k5 ?a6 ?i6 ?l6 ?c6 ?k6 ?a7 ?i7 ?l7 ?c7 ?k7 ?a8 ?i8 ?l8 ?c8 ?k8 ?a9 ?i9 ?l9 ?c9 ?k9 ?a10 ?i10 ?l10 ?c10 ?k10 ?a11 ?i11 ?l11 ?c11 ?k11 ?a12 ?i12 ?l12 ?c12 ?k12 ?a13 ?i13 ?l13 ?c13 ?k13 ?a14 ?i14 ?l14 ?c14 ?k14 ?a15 ?i15 ?l15 ?c15 ?k15 ?a16 ?i16 ?l16 ?c16 ?k16 ?a17 ?i17 ?l17 ?c17 ?k17 ?a18 ?i18 ?l18 ?c18 ?k18 ?a19 ?i19 ?l19 ?c19 ?k19 ?a20 ?l20 ?c20 ?k20 ?a21 ?l21 ?c21 ?k21 ?a22 ?l22 ?c22 ?k22 ?a23 ?l23 ?c23 ?k23 ?a24 ?l24 ?c24 ?k24 ?a25 ?l25 ?c25 ?k25 ?a26 ?l26 ?c26 ?k26 ?a27 ?l27 ?c27 ?k27 ?a28 ?l28 ?c28 ?k28 ?a29 ?l29 ?c29 ?k29 ?a30 ?l30 ?c30 ?k30 ?a31 ?l31 ?c31 ?k31 ?a32 ?l32 ?c32 ?k32 ?a33 ?l33 ?c33 ?k33 ?a34 ?l34 ?c34 ?k34 ?a35 ?l35 ?c35 ?k35 ?a36 ?l36 ?c36 ?k36 ?a37 ?l37 ?c37 ?k37 ?a38 ?l38 ?c38 ?k38 ?a39 ?l39 ?c39 ?k39 ?a40 ?l40 ?c40 ?k40 ?n_all ?n_bool ?n_int ?n_isinstance ?n_len ?n_min ?n_range ?n_sorted ?n_str ?n_tuple ?v_DIGITS ?v_GREATEST_NUMBER ?v_KEPT_WORDS ?u_KEPT_WORDS ?v_LETTERS ?v_LONGEST_WORD ?v_MOST_OPEN
    (case aC_Reader => k_is)
    (case pg_Reader => k_is)
    (case hd_Reader => k_is)
    (case po_Reader => k_is)
    (case sa_Reader => k_is)
    (case mk_Reader => k_is)
    (case kc_Reader => k_is)
    (case na_Reader_0 => k_is)
    (case na_Reader_1 => k_is)
    (case na_Reader_2 => k_is)
    (case aC_CubeError => k_is)
    (case aC_FaultyText => k_is)
    (case xL_FaultyText => k_is)
    (case sa_FaultyText => k_is)
    (case nb_FaultyText => k_is)
    (case xk_FaultyText => k_is)
    (case xs_FaultyText => k_is)
    (case xt_FaultyText => k_is)
    (case ig_FaultyText => k_is)
    (case ik_FaultyText => k_is)
    (case id_FaultyText => k_is)
    (case ia_FaultyText => k_is)
    (case im_FaultyText => k_is)
    (case in_ => k_is)
    (case it_ => k_is)
    (case nb_ => k_is)
    (case a0 => k_is)
    (case l0 => k_is)
    (case c0 => k_is)
    (case k0 => k_is)
    (case a1 => k_is)
    (case l1 => k_is)
    (case c1 => k_is)
    (case k1 => k_is)
    (case a2 => k_is)
    (case l2 => k_is)
    (case c2 => k_is)
    (case k2 => k_is)
    (case a3 => k_is)
    (case l3 => k_is)
    (case c3 => k_is)
    (case k3 => k_is)
    (case a4 => k_is)
    (case l4 => k_is)
    (case c4 => k_is)
    (case k4 => k_is)
    (case a5 => k_is)
    (case i5 => k_is)
    (case l5 => k_is)
    (case c5 => k_is)
    (case k5 => k_is)
    (case a6 => k_is)
    (case i6 => k_is)
    (case l6 => k_is)
    (case c6 => k_is)
    (case k6 => k_is)
    (case a7 => k_is)
    (case i7 => k_is)
    (case l7 => k_is)
    (case c7 => k_is)
    (case k7 => k_is)
    (case a8 => k_is)
    (case i8 => k_is)
    (case l8 => k_is)
    (case c8 => k_is)
    (case k8 => k_is)
    (case a9 => k_is)
    (case i9 => k_is)
    (case l9 => k_is)
    (case c9 => k_is)
    (case k9 => k_is)
    (case a10 => k_is)
    (case i10 => k_is)
    (case l10 => k_is)
    (case c10 => k_is)
    (case k10 => k_is)
    (case a11 => k_is)
    (case i11 => k_is)
    (case l11 => k_is)
    (case c11 => k_is)
    (case k11 => k_is)
    (case a12 => k_is)
    (case i12 => k_is)
    (case l12 => k_is)
    (case c12 => k_is)
    (case k12 => k_is)
    (case a13 => k_is)
    (case i13 => k_is)
    (case l13 => k_is)
    (case c13 => k_is)
    (case k13 => k_is)
    (case a14 => k_is)
    (case i14 => k_is)
    (case l14 => k_is)
    (case c14 => k_is)
    (case k14 => k_is)
    (case a15 => k_is)
    (case i15 => k_is)
    (case l15 => k_is)
    (case c15 => k_is)
    (case k15 => k_is)
    (case a16 => k_is)
    (case i16 => k_is)
    (case l16 => k_is)
    (case c16 => k_is)
    (case k16 => k_is)
    (case a17 => k_is)
    (case i17 => k_is)
    (case l17 => k_is)
    (case c17 => k_is)
    (case k17 => k_is)
    (case a18 => k_is)
    (case i18 => k_is)
    (case l18 => k_is)
    (case c18 => k_is)
    (case k18 => k_is)
    (case a19 => k_is)
    (case i19 => k_is)
    (case l19 => k_is)
    (case c19 => k_is)
    (case k19 => k_is)
    (case a20 => k_is)
    (case l20 => k_is)
    (case c20 => k_is)
    (case k20 => k_is)
    (case a21 => k_is)
    (case l21 => k_is)
    (case c21 => k_is)
    (case k21 => k_is)
    (case a22 => k_is)
    (case l22 => k_is)
    (case c22 => k_is)
    (case k22 => k_is)
    (case a23 => k_is)
    (case l23 => k_is)
    (case c23 => k_is)
    (case k23 => k_is)
    (case a24 => k_is)
    (case l24 => k_is)
    (case c24 => k_is)
    (case k24 => k_is)
    (case a25 => k_is)
    (case l25 => k_is)
    (case c25 => k_is)
    (case k25 => k_is)
    (case a26 => k_is)
    (case l26 => k_is)
    (case c26 => k_is)
    (case k26 => k_is)
    (case a27 => k_is)
    (case l27 => k_is)
    (case c27 => k_is)
    (case k27 => k_is)
    (case a28 => k_is)
    (case l28 => k_is)
    (case c28 => k_is)
    (case k28 => k_is)
    (case a29 => k_is)
    (case l29 => k_is)
    (case c29 => k_is)
    (case k29 => k_is)
    (case a30 => k_is)
    (case l30 => k_is)
    (case c30 => k_is)
    (case k30 => k_is)
    (case a31 => k_is)
    (case l31 => k_is)
    (case c31 => k_is)
    (case k31 => k_is)
    (case a32 => k_is)
    (case l32 => k_is)
    (case c32 => k_is)
    (case k32 => k_is)
    (case a33 => k_is)
    (case l33 => k_is)
    (case c33 => k_is)
    (case k33 => k_is)
    (case a34 => k_is)
    (case l34 => k_is)
    (case c34 => k_is)
    (case k34 => k_is)
    (case a35 => k_is)
    (case l35 => k_is)
    (case c35 => k_is)
    (case k35 => k_is)
    (case a36 => k_is)
    (case l36 => k_is)
    (case c36 => k_is)
    (case k36 => k_is)
    (case a37 => k_is)
    (case l37 => k_is)
    (case c37 => k_is)
    (case k37 => k_is)
    (case a38 => k_is)
    (case l38 => k_is)
    (case c38 => k_is)
    (case k38 => k_is)
    (case a39 => k_is)
    (case l39 => k_is)
    (case c39 => k_is)
    (case k39 => k_is)
    (case a40 => k_is)
    (case l40 => k_is)
    (case c40 => k_is)
    (case k40 => k_is)
    (case n_all => k_is)
    (case n_bool => k_is)
    (case n_int => k_is)
    (case n_isinstance => k_is)
    (case n_len => k_is)
    (case n_min => k_is)
    (case n_range => k_is)
    (case n_sorted => k_is)
    (case n_str => k_is)
    (case n_tuple => k_is)
    (case v_DIGITS => k_is)
    (case v_GREATEST_NUMBER => k_is)
    (case v_KEPT_WORDS => k_is)
    (case u_KEPT_WORDS => k_is)
    (case v_LETTERS => k_is)
    (case v_LONGEST_WORD => k_is)
    (case v_MOST_OPEN => k_is)

