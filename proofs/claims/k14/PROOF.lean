import PyProof.Rows.All
import Wide.All
import OpenK.AllK
import Wide.FinOn
import HandS.ForMost
import HandS.IsInst
import HandS.Style
import HandS.TupAny
import HandS.TupMul
import HandS.Conv
import HandS.Defaults
import HandS.Wide
import HandS.Codes
import HandS.Nested
import HandS.Zip
import HandS.EndTab
import HandS.RaiseMore
import HandS.Dict
import HandS.Strs
import HandS.SetFor
import KE.GoesEnum
import HandS.Iter
import PySem.Challenge.RW_parlourday_k14_games_held_and_played
set_option Elab.async false
set_option linter.all false
set_option maxRecDepth 100000
set_option maxHeartbeats 1000000
/-! an abstract machine over data: values that never change (PyData), lists that do (by their places) -/
namespace Dat
open PySem PySem.Spec PyProof.Rows L2
mutual
inductive Dq (K : PySem.W.Frag) (H : Hp) : V → PyData → Prop
  | non : Dq K H .non .none
  | bl (b : Bool) : Dq K H (.bl b) (.bool b)
  | int (i : Int) : Dq K H (.int i) (.int i)
  | str (x : Str) : Dq K H (.str x) (.str x)
  | lst {a : Addr} {xs : List V} {ds : List PyData} (h : H a = some (.lst xs)) (g : DqAll K H xs ds) : Dq K H (.ref a) (.list ds)
  | tup {a : Addr} {xs : List V} {ds : List PyData} (h : SqT K H a xs) (g : DqAll K H xs ds) : Dq K H (.ref a) (.tuple ds)
  | dct {a : Addr} (h : H a = some (.dK [])) : Dq K H (.ref a) (.dict [])
inductive DqAll (K : PySem.W.Frag) (H : Hp) : List V → List PyData → Prop
  | nil : DqAll K H [] []
  | cons {v : V} {vs : List V} {d : PyData} {ds : List PyData} (h : Dq K H v d) (g : DqAll K H vs ds) : DqAll K H (v :: vs) (d :: ds)
end
theorem sqT_same {K : PySem.W.Frag} {H H' : Hp} {a : Addr} {xs : List V} (s : Same H H') (h : SqT K H a xs) : SqT K H' a xs := by
  rcases h with (h | ⟨o, h⟩) | h
  · exact .inl (.inl (s _ _ h))
  · exact .inl (.inr ⟨o, s _ _ h⟩)
  · exact .inr h
section
variable {K : PySem.W.Frag} {H H' : Hp}
mutual
theorem Dq.same (s : Same H H') : ∀ {v : V} {d : PyData}, Dq K H v d → Dq K H' v d
  | _, _, .non => .non
  | _, _, .bl b => .bl b
  | _, _, .int i => .int i
  | _, _, .str x => .str x
  | _, _, .lst h g => .lst (s _ _ h) (DqAll.same s g)
  | _, _, .tup h g => .tup (sqT_same s h) (DqAll.same s g)
  | _, _, .dct h => .dct (s _ _ h)
theorem DqAll.same (s : Same H H') : ∀ {vs : List V} {ds : List PyData}, DqAll K H vs ds → DqAll K H' vs ds
  | _, _, .nil => .nil
  | _, _, .cons h g => .cons (Dq.same s h) (DqAll.same s g)
end
theorem DqAll.length : ∀ {vs : List V} {ds : List PyData}, DqAll K H vs ds → vs.length = ds.length
  | _, _, .nil => rfl
  | _, _, .cons _ g => by rw [List.length_cons, List.length_cons, DqAll.length g]
theorem DqAll.get : ∀ {vs : List V} {ds : List PyData} {i : Nat} {d : PyData}, DqAll K H vs ds → ds[i]? = some d → ∃ v, vs[i]? = some v ∧ Dq K H v d
  | _, _, _, _, .nil, e => by simp at e
  | _, _, 0, _, .cons h _, e => by
    rw [List.getElem?_cons_zero] at e
    cases e
    exact ⟨_, rfl, h⟩
  | _, _, i + 1, _, .cons _ g, e => by
    rw [List.getElem?_cons_succ] at e
    obtain ⟨v, e2, h⟩ := DqAll.get g e
    exact ⟨v, by rw [List.getElem?_cons_succ]; exact e2, h⟩
theorem DqAll.getV : ∀ {vs : List V} {ds : List PyData} {i : Nat} {v : V}, DqAll K H vs ds → vs[i]? = some v → ∃ d, ds[i]? = some d ∧ Dq K H v d
  | _, _, _, _, .nil, e => by simp at e
  | _, _, 0, _, .cons h _, e => by
    rw [List.getElem?_cons_zero] at e
    cases e
    exact ⟨_, rfl, h⟩
  | _, _, i + 1, _, .cons _ g, e => by
    rw [List.getElem?_cons_succ] at e
    obtain ⟨v, e2, h⟩ := DqAll.getV g e
    exact ⟨v, by rw [List.getElem?_cons_succ]; exact e2, h⟩
theorem DqAll.app : ∀ {vs us : List V} {ds es : List PyData}, DqAll K H vs ds → DqAll K H us es → DqAll K H (vs ++ us) (ds ++ es)
  | _, _, _, _, .nil, q => q
  | _, _, _, _, .cons h g, q => .cons h (DqAll.app g q)
theorem DqAll.take : ∀ {vs : List V} {ds : List PyData} (n : Nat), DqAll K H vs ds → DqAll K H (vs.take n) (ds.take n)
  | _, _, 0, _ => by rw [List.take_zero, List.take_zero]; exact .nil
  | _, _, n + 1, .nil => by rw [List.take_nil, List.take_nil]; exact .nil
  | _, _, n + 1, .cons h g => by rw [List.take_succ_cons, List.take_succ_cons]; exact .cons h (DqAll.take n g)
theorem DqAll.drop : ∀ {vs : List V} {ds : List PyData} (n : Nat), DqAll K H vs ds → DqAll K H (vs.drop n) (ds.drop n)
  | _, _, 0, h => by rw [List.drop_zero, List.drop_zero]; exact h
  | _, _, n + 1, .nil => by rw [List.drop_nil, List.drop_nil]; exact .nil
  | _, _, n + 1, .cons h g => by rw [List.drop_succ_cons, List.drop_succ_cons]; exact DqAll.drop n g
theorem DqAll.rev : ∀ {vs : List V} {ds : List PyData}, DqAll K H vs ds → DqAll K H vs.reverse ds.reverse
  | _, _, .nil => .nil
  | _, _, .cons h g => by
    rw [List.reverse_cons, List.reverse_cons]
    exact DqAll.app (DqAll.rev g) (.cons h .nil)
theorem DqAll.ints : ∀ {ns : List Int} {vs : List V}, DqAll K H vs (ns.map PyData.int) → vs = ns.map V.int
  | [], _, h => by cases h; rfl
  | n :: r, _, h => by
    rw [List.map_cons] at h
    cases h with
    | cons h g =>
      cases h
      rw [DqAll.ints g, List.map_cons]
theorem DqAll.ofInts : ∀ {ns : List Int}, DqAll K H (ns.map V.int) (ns.map PyData.int)
  | [] => .nil
  | n :: r => .cons (.int n) DqAll.ofInts
end
/-! ### abstract values, the store of lists that change -/
inductive Av
  | dat (d : PyData)
  | ptr (p : Addr)
  | tup (as : List Av)
  | scr (ns : List Int)
  | fn (f : Addr)
  | ty (T : String)
mutual
inductive VOk (K : PySem.W.Frag) (F : Hp) : Av → V → Prop
  | dat {d : PyData} {v : V} (h : Dq K F v d) : VOk K F (.dat d) v
  | ptr (p : Addr) : VOk K F (.ptr p) (.ref p)
  | tup {a : Addr} {as : List Av} {xs : List V} (h : F a = some (.tup xs)) (g : VAll K F as xs) : VOk K F (.tup as) (.ref a)
  | scr {a : Addr} {ns : List Int} (h : SqL K F a (ns.map V.int)) : VOk K F (.scr ns) (.ref a)
  | fn (f : Addr) : VOk K F (.fn f) (.ref f)
  | ty (T : String) : VOk K F (.ty T) (.ty T)
inductive VAll (K : PySem.W.Frag) (F : Hp) : List Av → List V → Prop
  | nil : VAll K F [] []
  | cons {a : Av} {as : List Av} {v : V} {vs : List V} (h : VOk K F a v) (g : VAll K F as vs) : VAll K F (a :: as) (v :: vs)
end
abbrev AH := Addr → Option (List Av)
def put (Ω : AH) (p : Addr) (as : List Av) : AH := fun a => if a = p then some as else Ω a
def del (Ω : AH) (p : Addr) : AH := fun a => if a = p then none else Ω a
theorem put_same {Ω : AH} {p : Addr} {as : List Av} : put Ω p as p = some as := if_pos rfl
theorem put_ne {Ω : AH} {p q : Addr} {as : List Av} (h : q ≠ p) : put Ω p as q = Ω q := if_neg h
theorem put_put {Ω : AH} {p : Addr} {as bs : List Av} : put (put Ω p as) p bs = put Ω p bs := by
  funext a
  unfold put
  split <;> rfl
theorem del_put {Ω : AH} {p : Addr} {as : List Av} (h : Ω p = none) : del (put Ω p as) p = Ω := by
  funext a
  unfold del put
  split
  · next e => rw [e, h]
  · rfl
theorem put_id {Ω : AH} {p : Addr} {as : List Av} (h : Ω p = some as) : put Ω p as = Ω := by
  funext a
  unfold put
  split
  · next e => rw [e, h]
  · rfl
theorem ne_of_Ω {Ω : AH} {p q : Addr} {as : List Av} (h : Ω p = some as) (n : Ω q = none) : p ≠ q := fun e => by
  rw [e, n] at h
  cases h
/-- what is seen of the heap besides the lists that change -/
def Fz (Ω : AH) (H : Hp) : Hp := fun a => match Ω a with
  | some _ => none
  | none => H a
theorem Fz_none {Ω : AH} {H : Hp} {a : Addr} (h : Ω a = none) : Fz Ω H a = H a := by
  unfold Fz
  rw [h]
theorem Fz_some {Ω : AH} {H : Hp} {a : Addr} {as : List Av} (h : Ω a = some as) : Fz Ω H a = none := by
  unfold Fz
  rw [h]
theorem Fz_le {Ω : AH} {H : Hp} : Same (Fz Ω H) H := fun a o e => by
  unfold Fz at e
  split at e
  · cases e
  · exact e
theorem Fz_of {Ω : AH} {H : Hp} {a : Addr} {o : HO} (e : Fz Ω H a = some o) : Ω a = none := by
  unfold Fz at e
  split at e
  · cases e
  · assumption
theorem Fz_same {Ω : AH} {H H' : Hp} (s : Same H H') : Same (Fz Ω H) (Fz Ω H') := fun a o e => by
  have n := Fz_of e
  rw [Fz_none n] at e ⊢
  exact s a o e
theorem Fz_new {Ω : AH} {H : Hp} {p : Addr} {o : HO} {as : List Av} (n : H p = none) : Fz (put Ω p as) (upd H p o) = Fz Ω H := by
  funext a
  by_cases e : a = p
  · subst e
    rw [Fz_some put_same]
    unfold Fz
    split
    · rfl
    · exact n.symm
  · unfold Fz
    rw [put_ne e, upd_ne e]
theorem Fz_put {Ω : AH} {H : Hp} {p : Addr} {o : HO} {as bs : List Av} (n : Ω p = some bs) : Fz (put Ω p as) (upd H p o) = Fz Ω H := by
  funext a
  by_cases e : a = p
  · subst e
    rw [Fz_some put_same, Fz_some n]
  · unfold Fz
    rw [put_ne e, upd_ne e]
theorem Fz_del {Ω : AH} {H : Hp} {p : Addr} : Same (Fz Ω H) (Fz (del Ω p) H) := fun a o e => by
  have n := Fz_of e
  rw [Fz_none n] at e
  have m : del Ω p a = none := by
    unfold del
    split
    · rfl
    · exact n
  rw [Fz_none m]
  exact e
section
variable {K : PySem.W.Frag} {F F' : Hp}
mutual
theorem VOk.same (s : Same F F') : ∀ {a : Av} {v : V}, VOk K F a v → VOk K F' a v
  | _, _, .dat h => .dat (h.same s)
  | _, _, .ptr p => .ptr p
  | _, _, .tup h g => .tup (s _ _ h) (VAll.same s g)
  | _, _, .scr h => .scr (s.seq h)
  | _, _, .fn f => .fn f
  | _, _, .ty T => .ty T
theorem VAll.same (s : Same F F') : ∀ {as : List Av} {vs : List V}, VAll K F as vs → VAll K F' as vs
  | _, _, .nil => .nil
  | _, _, .cons h g => .cons (VOk.same s h) (VAll.same s g)
end
theorem VAll.length : ∀ {as : List Av} {vs : List V}, VAll K F as vs → vs.length = as.length
  | _, _, .nil => rfl
  | _, _, .cons _ g => by rw [List.length_cons, List.length_cons, VAll.length g]
theorem VAll.get : ∀ {as : List Av} {vs : List V} {i : Nat} {a : Av}, VAll K F as vs → as[i]? = some a → ∃ v, vs[i]? = some v ∧ VOk K F a v
  | _, _, _, _, .nil, e => by simp at e
  | _, _, 0, _, .cons h _, e => by
    rw [List.getElem?_cons_zero] at e
    cases e
    exact ⟨_, rfl, h⟩
  | _, _, i + 1, _, .cons _ g, e => by
    rw [List.getElem?_cons_succ] at e
    obtain ⟨v, e2, h⟩ := VAll.get g e
    exact ⟨v, by rw [List.getElem?_cons_succ]; exact e2, h⟩
theorem VAll.app : ∀ {as bs : List Av} {vs us : List V}, VAll K F as vs → VAll K F bs us → VAll K F (as ++ bs) (vs ++ us)
  | _, _, _, _, .nil, q => q
  | _, _, _, _, .cons h g, q => .cons h (VAll.app g q)
theorem VAll.set : ∀ {as : List Av} {vs : List V} {a : Av} {v : V} (i : Nat), VAll K F as vs → VOk K F a v → VAll K F (as.set i a) (vs.set i v)
  | _, _, _, _, _, .nil, _ => .nil
  | _, _, _, _, 0, .cons _ g, k => .cons k g
  | _, _, _, _, i + 1, .cons h g, k => .cons h (VAll.set i g k)
theorem VAll.dats : ∀ {ds : List PyData} {vs : List V}, VAll K F (ds.map .dat) vs → DqAll K F vs ds
  | [], _, h => by cases h; exact .nil
  | d :: r, _, h => by
    rw [List.map_cons] at h
    cases h with
    | cons h g =>
      cases h with
      | dat h => exact .cons h (VAll.dats g)
theorem VAll.ofDats : ∀ {ds : List PyData} {vs : List V}, DqAll K F vs ds → VAll K F (ds.map .dat) vs
  | _, _, .nil => .nil
  | _, _, .cons h g => .cons (.dat h) (VAll.ofDats g)
end
inductive Slots (K : PySem.W.Frag) (F : Hp) : List (Option Av) → List (Option V) → Prop
  | nil : Slots K F [] []
  | no {x : Option V} {Γ : List (Option Av)} {σ : List (Option V)} (g : Slots K F Γ σ) : Slots K F (none :: Γ) (x :: σ)
  | yes {a : Av} {v : V} {Γ : List (Option Av)} {σ : List (Option V)} (h : VOk K F a v) (g : Slots K F Γ σ) : Slots K F (some a :: Γ) (some v :: σ)
section
variable {K : PySem.W.Frag} {F F' : Hp}
theorem Slots.same (s : Same F F') : ∀ {Γ : List (Option Av)} {σ : List (Option V)}, Slots K F Γ σ → Slots K F' Γ σ
  | _, _, .nil => .nil
  | _, _, .no g => .no (Slots.same s g)
  | _, _, .yes h g => .yes (h.same s) (Slots.same s g)
theorem Slots.get : ∀ {Γ : List (Option Av)} {σ : List (Option V)} {i : Nat} {a : Av}, Slots K F Γ σ → Γ[i]? = some (some a) → ∃ v, σ[i]? = some (some v) ∧ VOk K F a v
  | _, _, _, _, .nil, e => by simp at e
  | _, _, 0, _, .no _, e => by simp at e
  | _, _, 0, _, .yes h _, e => by
    rw [List.getElem?_cons_zero] at e
    cases e
    exact ⟨_, rfl, h⟩
  | _, _, i + 1, _, .no g, e => by
    rw [List.getElem?_cons_succ] at e
    obtain ⟨v, e2, h⟩ := Slots.get g e
    exact ⟨v, by rw [List.getElem?_cons_succ]; exact e2, h⟩
  | _, _, i + 1, _, .yes _ g, e => by
    rw [List.getElem?_cons_succ] at e
    obtain ⟨v, e2, h⟩ := Slots.get g e
    exact ⟨v, by rw [List.getElem?_cons_succ]; exact e2, h⟩
theorem Slots.set : ∀ {Γ : List (Option Av)} {σ : List (Option V)} {a : Av} {v : V} (i : Nat), Slots K F Γ σ → VOk K F a v → Slots K F (Γ.set i (some a)) (σ.set i (some v))
  | _, _, _, _, _, .nil, _ => .nil
  | _, _, _, _, 0, .no g, k => .yes k g
  | _, _, _, _, 0, .yes _ g, k => .yes k g
  | _, _, _, _, i + 1, .no g, k => .no (Slots.set i g k)
  | _, _, _, _, i + 1, .yes h g, k => .yes h (Slots.set i g k)
theorem Slots.clear : ∀ {Γ : List (Option Av)} {σ : List (Option V)} (i : Nat), Slots K F Γ σ → Slots K F (Γ.set i none) (σ.set i none)
  | _, _, _, .nil => .nil
  | _, _, 0, .no g => .no g
  | _, _, 0, .yes _ g => .no g
  | _, _, i + 1, .no g => .no (Slots.clear i g)
  | _, _, i + 1, .yes h g => .yes h (Slots.clear i g)
theorem Slots.start {N : List Str} : ∀ {as : List Av} {vs : List V}, VAll K F as vs → ∀ n, Slots K F (as.map some ++ List.replicate n none) (vs.map some ++ List.replicate n none)
  | _, _, .nil, 0 => .nil
  | _, _, .nil, n + 1 => .no (Slots.start (N := N) .nil n)
  | _, _, .cons h g, n => .yes h (Slots.start (N := N) g n)
end
def wipeA (Γ : List (Option Av)) : List Nat → List (Option Av)
  | [] => Γ
  | v :: vs => (wipeA Γ vs).set v none
theorem Slots.wipe {K : PySem.W.Frag} {F : Hp} {Γ : List (Option Av)} {σ : List (Option V)} (h : Slots K F Γ σ) : ∀ vs : List Nat, Slots K F (wipeA Γ vs) (L2.wipe σ vs)
  | [] => h
  | v :: vs => Slots.clear v (Slots.wipe h vs)
structure Ok (K : PySem.W.Frag) (F : Hp) (Ω : AH) (Γ : List (Option Av)) (σ : L2.St) (H : Hp) : Prop where
  fr : Same F (Fz Ω H)
  st : ∀ p as, Ω p = some as → ∃ xs, H p = some (.lst xs) ∧ VAll K (Fz Ω H) as xs
  sl : Slots K (Fz Ω H) Γ σ
section
variable {K : PySem.W.Frag} {F F1 : Hp} {Ω : AH} {Γ : List (Option Av)} {σ : L2.St} {H H' : Hp} {p : Addr} {as : List Av} {xs : List V} {a : Av} {v : V} {i : Nat}
theorem Ok.same (k : Ok K F Ω Γ σ H) (s : Same H H') : Ok K F Ω Γ σ H' := by
  have s' := Fz_same (Ω := Ω) s
  refine ⟨k.fr.trans s', fun p as e => ?_, k.sl.same s'⟩
  obtain ⟨xs, h1, h2⟩ := k.st p as e
  exact ⟨xs, s _ _ h1, h2.same s'⟩
theorem Ok.re (k : Ok K F Ω Γ σ H) : Ok K (Fz Ω H) Ω Γ σ H := ⟨Same.refl _, k.st, k.sl⟩
theorem Ok.anchor (k : Ok K F1 Ω Γ σ H) (s : Same F F1) : Ok K F Ω Γ σ H := ⟨s.trans k.fr, k.st, k.sl⟩
theorem Ok.bare (k : Ok K F Ω Γ σ H) : Ok K F Ω [] [] H := ⟨k.fr, k.st, .nil⟩
theorem Ok.back {Ω' : AH} (k : Ok K F Ω Γ σ H) (j : Ok K (Fz Ω H) Ω' [] [] H') : Ok K F Ω' Γ σ H' := ⟨k.fr.trans j.fr, j.st, k.sl.same j.fr⟩
theorem Ok.val (k : Ok K F Ω Γ σ H) (e : Γ[i]? = some (some a)) : ∃ v, σ[i]? = some (some v) ∧ VOk K (Fz Ω H) a v := k.sl.get e
theorem Ok.set (k : Ok K F Ω Γ σ H) (h : VOk K (Fz Ω H) a v) (i : Nat) : Ok K F Ω (Γ.set i (some a)) (σ.set i (some v)) H := ⟨k.fr, k.st, k.sl.set i h⟩
theorem Ok.wipe (k : Ok K F Ω Γ σ H) (vs : List Nat) : Ok K F Ω (wipeA Γ vs) (L2.wipe σ vs) H := ⟨k.fr, k.st, k.sl.wipe vs⟩
theorem Ok.free (k : Ok K F Ω Γ σ H) (n : H p = none) : Ω p = none := by
  cases e : Ω p with
  | none => rfl
  | some as =>
    obtain ⟨xs, h1, _⟩ := k.st p as e
    rw [n] at h1
    cases h1
theorem Ok.new (k : Ok K F Ω Γ σ H) (n : H p = none) (h : VAll K (Fz Ω H) as xs) : Ok K F (put Ω p as) Γ σ (upd H p (.lst xs)) := by
  have e := Fz_new (Ω := Ω) (o := .lst xs) (as := as) n
  refine ⟨by rw [e]; exact k.fr, fun q bs hq => ?_, by rw [e]; exact k.sl⟩
  rw [e]
  by_cases z : q = p
  · subst z
    rw [put_same] at hq
    cases hq
    exact ⟨xs, upd_same, h⟩
  · rw [put_ne z] at hq
    rw [upd_ne z]
    exact k.st q bs hq
theorem Ok.put {bs : List Av} (k : Ok K F Ω Γ σ H) (n : Ω p = some bs) (h : VAll K (Fz Ω H) as xs) : Ok K F (Dat.put Ω p as) Γ σ (upd H p (.lst xs)) := by
  have e := Fz_put (Ω := Ω) (H := H) (o := .lst xs) (as := as) n
  refine ⟨by rw [e]; exact k.fr, fun q bs hq => ?_, by rw [e]; exact k.sl⟩
  rw [e]
  by_cases z : q = p
  · subst z
    rw [put_same] at hq
    cases hq
    exact ⟨xs, upd_same, h⟩
  · rw [put_ne z] at hq
    rw [upd_ne z]
    exact k.st q bs hq
theorem same_new {o : HO} (n : H p = none) : Same H (upd H p o) := fun b x e => by
  rw [upd_ne (ne_of_none e n)]
  exact e
theorem Fz_at {Ω : AH} {o : HO} (n : Ω p = none) : Fz Ω (upd H p o) p = some o := by
  rw [Fz_none n, upd_same]
theorem Ok.frz {ds : List PyData} (k : Ok K F Ω Γ σ H) (e : Ω p = some (ds.map .dat)) : Ok K F (del Ω p) Γ σ H ∧ Dq K (Fz (del Ω p) H) (.ref p) (.list ds) := by
  have s : Same (Fz Ω H) (Fz (del Ω p) H) := Fz_del
  obtain ⟨xs, h1, h2⟩ := k.st p _ e
  refine ⟨⟨k.fr.trans s, fun q bs hq => ?_, k.sl.same s⟩, .lst ?_ (h2.same s).dats⟩
  · have hq' : Ω q = some bs := by
      unfold del at hq
      split at hq
      · cases hq
      · exact hq
    obtain ⟨ys, g1, g2⟩ := k.st q bs hq'
    exact ⟨ys, g1, g2.same s⟩
  · rw [Fz_none (if_pos rfl)]
    exact h1
end
/-! ### what is wanted behind an expression, a test, arguments -/
def EW (K : PySem.W.Frag) (te : TE) (Γ : List (Option Av)) (Ω : AH) (P : Av → AH → Prop) : Prop :=
  ∀ (F : Hp) (σ : L2.St) (H : Hp) (Q : VK), Ok K F Ω Γ σ H → (∀ a v Ω' H', P a Ω' → Ok K F Ω' Γ σ H' → VOk K (Fz Ω' H') a v → Q v H') → te σ H Q
def TW (K : PySem.W.Frag) (tt : TT) (Γ : List (Option Av)) (Ω : AH) (P : Bool → AH → Prop) : Prop :=
  ∀ (F : Hp) (σ : L2.St) (H : Hp) (Q : Bool → Hp → Prop), Ok K F Ω Γ σ H → (∀ b Ω' H', P b Ω' → Ok K F Ω' Γ σ H' → Q b H') → tt σ H Q
def AW (K : PySem.W.Frag) (ta : TA) (Γ : List (Option Av)) (Ω : AH) (P : List Av → AH → Prop) : Prop :=
  ∀ (F : Hp) (σ : L2.St) (H : Hp) (Q : List V → Hp → Prop), Ok K F Ω Γ σ H → (∀ as vs Ω' H', P as Ω' → Ok K F Ω' Γ σ H' → VAll K (Fz Ω' H') as vs → Q vs H') → ta σ H Q
def OW (K : PySem.W.Frag) (to : TO) (Γ : List (Option Av)) (Ω : AH) (P : Option Int → AH → Prop) : Prop :=
  ∀ (F : Hp) (σ : L2.St) (H : Hp) (Q : Option Int → Hp → Prop), Ok K F Ω Γ σ H → (∀ o Ω' H', P o Ω' → Ok K F Ω' Γ σ H' → Q o H') → to σ H Q
/-- operations on values -/
def R2W (K : PySem.W.Frag) (r : R2) (a b : Av) (Ω : AH) (P : Av → AH → Prop) : Prop :=
  ∀ (F : Hp) (H : Hp) (x y : V) (Q : VK), Ok K F Ω [] [] H → VOk K (Fz Ω H) a x → VOk K (Fz Ω H) b y → (∀ c v Ω' H', P c Ω' → Ok K F Ω' [] [] H' → VOk K (Fz Ω' H') c v → Q v H') → r x y H Q
def R1W (K : PySem.W.Frag) (r : V → Hp → VK → Prop) (a : Av) (Ω : AH) (P : Av → AH → Prop) : Prop :=
  ∀ (F : Hp) (H : Hp) (x : V) (Q : VK), Ok K F Ω [] [] H → VOk K (Fz Ω H) a x → (∀ c v Ω' H', P c Ω' → Ok K F Ω' [] [] H' → VOk K (Fz Ω' H') c v → Q v H') → r x H Q
def RCW (K : PySem.W.Frag) (r : List V → Hp → VK → Prop) (as : List Av) (Ω : AH) (P : Av → AH → Prop) : Prop :=
  ∀ (F : Hp) (H : Hp) (xs : List V) (Q : VK), Ok K F Ω [] [] H → VAll K (Fz Ω H) as xs → (∀ c v Ω' H', P c Ω' → Ok K F Ω' [] [] H' → VOk K (Fz Ω' H') c v → Q v H') → r xs H Q
section
variable {K : PySem.W.Frag} {Γ : List (Option Av)} {Ω : AH} {P P' : Av → AH → Prop} {ta tb tc te : TE} {tt tu : TT} {tl : TA} {r r' : R2}
theorem EW.mono (h : EW K te Γ Ω P) (f : ∀ a Ω', P a Ω' → P' a Ω') : EW K te Γ Ω P' := fun F σ H Q k q => h F σ H Q k fun a v Ω' H' p => q a v Ω' H' (f a Ω' p)
/-- a list just made (or held alone) that is to change no more -/
theorem EW.frz (h : EW K te Γ Ω fun a Ω' => ∃ p ds, a = .ptr p ∧ Ω' p = some (ds.map .dat) ∧ P (.dat (.list ds)) (del Ω' p)) : EW K te Γ Ω P := fun F σ H Q k q =>
  h F σ H Q k fun a v Ω' H' ⟨p, ds, ea, e, hp⟩ k' hv => by
    subst ea
    cases hv
    obtain ⟨k2, d2⟩ := k'.frz e
    exact q _ _ _ _ hp k2 (.dat d2)
theorem e_var {i : Nat} {a : Av} (e : Γ[i]? = some (some a)) (h : P a Ω) : EW K (tVar i) Γ Ω P := fun F σ H Q k q => by
  obtain ⟨v, ev, hv⟩ := k.val e
  exact ⟨v, ev, q a v Ω H h k hv⟩
theorem e_int {i : Int} (h : P (.dat (.int i)) Ω) : EW K (tC (.int i)) Γ Ω P := fun F σ H Q k q => q _ _ Ω H h k (.dat (.int i))
theorem e_str {x : Str} (h : P (.dat (.str x)) Ω) : EW K (tC (.str x)) Γ Ω P := fun F σ H Q k q => q _ _ Ω H h k (.dat (.str x))
theorem e_bl {b : Bool} (h : P (.dat (.bool b)) Ω) : EW K (tC (.bl b)) Γ Ω P := fun F σ H Q k q => q _ _ Ω H h k (.dat (.bl b))
theorem e_non (h : P (.dat .none) Ω) : EW K (tC .non) Γ Ω P := fun F σ H Q k q => q _ _ Ω H h k (.dat .non)
/-- a constant of the written part -/
theorem e_K {v : V} {d : PyData} (hd : ∀ H, Dq K H v d) (h : P (.dat d) Ω) : EW K (tC v) Γ Ω P := fun F σ H Q k q => q _ _ Ω H h k (.dat (hd _))
theorem e_op (h : EW K ta Γ Ω fun a Ω1 => EW K tb Γ Ω1 fun b Ω2 => R2W K r a b Ω2 P) : EW K (tOp r ta tb) Γ Ω P := fun F σ H Q k q =>
  h F σ H _ k fun a v Ω1 H1 h1 k1 v1 => h1 (Fz Ω1 H1) σ H1 _ k1.re fun b w Ω2 H2 h2 k2 v2 =>
    h2 (Fz Ω2 H2) H2 v w Q k2.bare.re (v1.same k2.fr) v2 fun c u Ω3 H3 hp k3 v3 => q c u Ω3 H3 hp ((k2.anchor k1.fr).back k3) v3
theorem e_un {r1 : V → Hp → VK → Prop} (h : EW K ta Γ Ω fun a Ω1 => R1W K r1 a Ω1 P) : EW K (tUn r1 ta) Γ Ω P := fun F σ H Q k q =>
  h F σ H _ k fun a v Ω1 H1 h1 k1 v1 => h1 (Fz Ω1 H1) H1 v Q k1.bare.re v1 fun c u Ω3 H3 hp k3 v3 => q c u Ω3 H3 hp (k1.back k3) v3
theorem e_then {r1 : V → Hp → VK → Prop} (h : EW K ta Γ Ω fun a Ω1 => R1W K r1 a Ω1 P) : EW K (tThen ta r1) Γ Ω P := e_un h
theorem a_nil {P : List Av → AH → Prop} (h : P [] Ω) : AW K tNil Γ Ω P := fun F σ H Q k q => q [] [] Ω H h k .nil
theorem a_cons {P : List Av → AH → Prop} (h : EW K ta Γ Ω fun a Ω1 => AW K tl Γ Ω1 fun as Ω2 => P (a :: as) Ω2) : AW K (tCons ta tl) Γ Ω P := fun F σ H Q k q =>
  h F σ H _ k fun a v Ω1 H1 h1 k1 v1 => h1 (Fz Ω1 H1) σ H1 _ k1.re fun as vs Ω2 H2 h2 k2 v2 => q (a :: as) (v :: vs) Ω2 H2 h2 (k2.anchor k1.fr) (.cons (v1.same k2.fr) v2)
theorem e_cb {rc : List V → Hp → VK → Prop} (h : AW K tl Γ Ω fun as Ω1 => RCW K rc as Ω1 P) : EW K (tCB rc tl) Γ Ω P := fun F σ H Q k q =>
  h F σ H _ k fun as vs Ω1 H1 h1 k1 v1 => h1 (Fz Ω1 H1) H1 vs Q k1.bare.re v1 fun c u Ω3 H3 hp k3 v3 => q c u Ω3 H3 hp (k1.back k3) v3
theorem sz_of {n : Nat} (h : n ≤ 100000) : n ≤ sizeLine := Nat.le_trans h (by decide)
theorem sz_lt {n : Nat} (h : n < 100000) : n < sizeLine := Nat.lt_of_lt_of_le h (by decide)
/-- a tuple of data; a tuple that holds lists that change -/
theorem e_tup (h : AW K tl Γ Ω fun as Ω1 => ∃ ds, as = ds.map .dat ∧ ds.length ≤ 100000 ∧ P (.dat (.tuple ds)) Ω1) : EW K (tTup tl) Γ Ω P := fun F σ H Q k q =>
  h F σ H _ k fun as vs Ω1 H1 ⟨ds, e, hl, hp⟩ k1 v1 => by
    subst e
    have l1 := v1.length
    rw [List.length_map] at l1
    refine ⟨sz_of (by omega), fun p np => ?_⟩
    have s := same_new (o := .tup vs) np
    exact q _ _ Ω1 _ hp (k1.same s) (.dat (.tup (.inl (.inl (Fz_at (k1.free np)))) (v1.dats.same (Fz_same s))))
theorem e_tupA (h : AW K tl Γ Ω fun as Ω1 => as.length ≤ 100000 ∧ P (.tup as) Ω1) : EW K (tTup tl) Γ Ω P := fun F σ H Q k q =>
  h F σ H _ k fun as vs Ω1 H1 ⟨hl, hp⟩ k1 v1 => by
    have l1 := v1.length
    refine ⟨sz_of (by omega), fun p np => ?_⟩
    have s := same_new (o := .tup vs) np
    exact q _ _ Ω1 _ hp (k1.same s) (.tup (Fz_at (k1.free np)) (v1.same (Fz_same s)))
/-- a list of data that is to change no more; a list that may -/
theorem e_lst (h : AW K tl Γ Ω fun as Ω1 => ∃ ds, as = ds.map .dat ∧ ds.length ≤ 100000 ∧ P (.dat (.list ds)) Ω1) : EW K (tLst tl) Γ Ω P := fun F σ H Q k q =>
  h F σ H _ k fun as vs Ω1 H1 ⟨ds, e, hl, hp⟩ k1 v1 => by
    subst e
    have l1 := v1.length
    rw [List.length_map] at l1
    refine ⟨sz_of (by omega), fun p np => ?_⟩
    have s := same_new (o := .lst vs) np
    exact q _ _ Ω1 _ hp (k1.same s) (.dat (.lst (Fz_at (k1.free np)) (v1.dats.same (Fz_same s))))
theorem e_lstP (h : AW K tl Γ Ω fun as Ω1 => as.length ≤ 100000 ∧ ∀ p, Ω1 p = none → P (.ptr p) (put Ω1 p as)) : EW K (tLst tl) Γ Ω P := fun F σ H Q k q =>
  h F σ H _ k fun as vs Ω1 H1 ⟨hl, hp⟩ k1 v1 => by
    have l1 := v1.length
    exact ⟨sz_of (by omega), fun p np => q _ _ _ _ (hp p (k1.free np)) (k1.new np v1) (.ptr p)⟩
/-! tests -/
theorem t_test {P : Bool → AH → Prop} (h : EW K te Γ Ω fun a Ω' => ∃ b, a = .dat (.bool b) ∧ P b Ω') : TW K (tTest te) Γ Ω P := fun F σ H Q k q =>
  h F σ H _ k fun a v Ω' H' ⟨b, e, hp⟩ k' hv => by
    subst e
    cases hv with
    | dat hv =>
      cases hv
      exact ⟨b, rfl, q b Ω' H' hp k'⟩
theorem t_B {P : Bool → AH → Prop} (h : EW K te Γ Ω fun a Ω' => ∃ b, a = .dat (.bool b) ∧ P b Ω') : TW K (tB te) Γ Ω P := t_test h
theorem t_yes {P : Bool → AH → Prop} (h : P true Ω) : TW K tYes Γ Ω P := fun F σ H Q k q => q true Ω H h k
theorem t_not {P : Bool → AH → Prop} (h : TW K tt Γ Ω fun b Ω' => P (!b) Ω') : TW K (tNot tt) Γ Ω P := fun F σ H Q k q => h F σ H _ k fun b Ω' H' hp k' => q _ _ _ hp k'
theorem t_and {P : Bool → AH → Prop} (h : TW K tt Γ Ω fun b Ω1 => (b = true → TW K tu Γ Ω1 P) ∧ (b = false → P false Ω1)) : TW K (tAnd tt tu) Γ Ω P := fun F σ H Q k q =>
  h F σ H _ k fun b Ω1 H1 hp k1 => by
    cases b with
    | true => exact hp.1 rfl F σ H1 Q k1 q
    | false => exact q _ _ _ (hp.2 rfl) k1
theorem t_or {P : Bool → AH → Prop} (h : TW K tt Γ Ω fun b Ω1 => (b = true → P true Ω1) ∧ (b = false → TW K tu Γ Ω1 P)) : TW K (tOr tt tu) Γ Ω P := fun F σ H Q k q =>
  h F σ H _ k fun b Ω1 H1 hp k1 => by
    cases b with
    | true => exact q _ _ _ (hp.1 rfl) k1
    | false => exact hp.2 rfl F σ H1 Q k1 q
theorem e_andV (h : EW K ta Γ Ω fun a Ω1 => ∃ b, a = .dat (.bool b) ∧ (b = true → EW K tb Γ Ω1 P) ∧ (b = false → P (.dat (.bool false)) Ω1)) : EW K (tAndV ta tb) Γ Ω P := fun F σ H Q k q =>
  h F σ H _ k fun a v Ω1 H1 ⟨b, e, h1, h2⟩ k1 v1 => by
    subst e
    cases v1 with
    | dat v1 =>
      cases v1
      refine ⟨b, rfl, ?_⟩
      cases b with
      | true => exact h1 rfl F σ H1 Q k1 q
      | false => exact q _ _ _ _ (h2 rfl) k1 (.dat (.bl false))
theorem e_orV (h : EW K ta Γ Ω fun a Ω1 => ∃ b, a = .dat (.bool b) ∧ (b = true → P (.dat (.bool true)) Ω1) ∧ (b = false → EW K tb Γ Ω1 P)) : EW K (tOrV ta tb) Γ Ω P := fun F σ H Q k q =>
  h F σ H _ k fun a v Ω1 H1 ⟨b, e, h1, h2⟩ k1 v1 => by
    subst e
    cases v1 with
    | dat v1 =>
      cases v1
      refine ⟨b, rfl, ?_⟩
      cases b with
      | true => exact q _ _ _ _ (h1 rfl) k1 (.dat (.bl true))
      | false => exact h2 rfl F σ H1 Q k1 q
theorem e_notV (h : EW K ta Γ Ω fun a Ω1 => ∃ b, a = .dat (.bool b) ∧ P (.dat (.bool (!b))) Ω1) : EW K (tNotV ta) Γ Ω P := fun F σ H Q k q =>
  h F σ H _ k fun a v Ω1 H1 ⟨b, e, h1⟩ k1 v1 => by
    subst e
    cases v1 with
    | dat v1 =>
      cases v1
      exact ⟨b, rfl, q _ _ _ _ h1 k1 (.dat (.bl _))⟩
theorem e_if (h : TW K tt Γ Ω fun b Ω1 => (b = true → EW K ta Γ Ω1 P) ∧ (b = false → EW K tb Γ Ω1 P)) : EW K (tIf tt ta tb) Γ Ω P := fun F σ H Q k q =>
  h F σ H _ k fun b Ω1 H1 hp k1 => by
    cases b with
    | true => exact hp.1 rfl F σ H1 Q k1 q
    | false => exact hp.2 rfl F σ H1 Q k1 q
/-- a chain of two comparisons -/
theorem e_chain (h : EW K ta Γ Ω fun a Ω1 => EW K tb Γ Ω1 fun b Ω2 => R2W K r a b Ω2 fun c Ω3 => ∃ z, c = .dat (.bool z) ∧ (z = true → EW K tc Γ Ω3 fun d Ω4 => R2W K r' b d Ω4 P) ∧ (z = false → P (.dat (.bool false)) Ω3)) : EW K (tChain r r' ta tb tc) Γ Ω P := fun F σ H Q k q =>
  h F σ H _ k fun a v Ω1 H1 h1 k1 v1 => h1 (Fz Ω1 H1) σ H1 _ k1.re fun b w Ω2 H2 h2 k2 v2 =>
    h2 (Fz Ω2 H2) H2 v w _ k2.bare.re (v1.same k2.fr) v2 fun c u Ω3 H3 ⟨z, ec, g1, g2⟩ k3 v3 => by
      subst ec
      have k3' := (k2.anchor k1.fr).back k3
      cases v3 with
      | dat v3 =>
        cases v3
        refine ⟨z, rfl, ?_⟩
        cases z with
        | true =>
          exact g1 rfl (Fz Ω3 H3) σ H3 _ k3'.re fun d x Ω4 H4 h4 k4 v4 =>
            h4 (Fz Ω4 H4) H4 w x Q k4.bare.re ((v2.same k3.fr).same k4.fr) v4 fun e y Ω5 H5 hp k5 v5 => q e y Ω5 H5 hp ((k4.anchor k3'.fr).back k5) v5
        | false => exact q _ _ _ _ (g2 rfl) k3' (.dat (.bl false))
end
end Dat

set_option Elab.async false
set_option linter.all false
set_option maxRecDepth 100000
set_option maxHeartbeats 1000000
namespace Dat
open PySem PySem.Spec PyProof.Rows L2
/-! ### operations on data -/
def canFlat : PyData → Bool
  | .none => true
  | .bool _ => true
  | .int _ => true
  | .str _ => true
  | _ => false
/-- == of two flat data as the rules for single values tell it -/
def scalD : PyData → PyData → Bool
  | .none, .none => true | .none, .int _ => true | .int _, .none => true | .none, .bool _ => true | .bool _, .none => true | .none, .str _ => true | .str _, .none => true
  | .int _, .int _ => true | .bool _, .bool _ => true | .str _, .str _ => true
  | .int _, .str _ => true | .str _, .int _ => true | .bool _, .str _ => true | .str _, .bool _ => true
  | _, _ => false
def eqD : PyData → PyData → Bool
  | .none, .none => true
  | .int i, .int j => decide (i = j)
  | .bool a, .bool b => decide (a = b)
  | .str x, .str y => decide (x = y)
  | _, _ => false
section
variable {K : PySem.W.Frag} {H : Hp}
theorem dq_eq {x y : V} {d e : PyData} (hx : Dq K H x d) (hy : Dq K H y e) (h : scalD d e = true) : scal x y = true ∧ decide (x = y) = eqD d e := by
  cases hx <;> cases hy <;> first | (cases h; done) | (refine ⟨rfl, ?_⟩; simp [eqD])
mutual
theorem Dq.dp : ∀ {v : V} {d : PyData}, Dq K H v d → d.canLay0 = true → Dp K H v d
  | _, _, .non, _ => .non
  | _, _, .bl b, _ => .bl b
  | _, _, .int i, _ => .int i
  | _, _, .str x, _ => .str x
  | _, _, .lst h g, e => .lst (SqL.of h) (DqAll.dp g (by simpa [PyData.canLay0] using e))
  | _, _, .tup h g, e => .tup h (DqAll.dp g (by simpa [PyData.canLay0] using e))
  | _, _, .dct h, e => by simp [PyData.canLay0] at e
theorem DqAll.dp : ∀ {vs : List V} {ds : List PyData}, DqAll K H vs ds → PyData.canLayAll0 ds = true → DpAll K H vs ds
  | _, _, .nil, _ => .nil
  | _, _, .cons h g, e => by
    rw [PyData.canLayAll0, Bool.and_eq_true] at e
    exact .cons (Dq.dp h e.1) (DqAll.dp g e.2)
end
theorem dq_flat {v : V} {d : PyData} (h : Dq K H v d) (f : canFlat d = true) : flatV v = true := by
  cases h <;> first | rfl | cases f
theorem dqAll_flat : ∀ {vs : List V} {ds : List PyData}, DqAll K H vs ds → ds.all canFlat = true → vs.all flatV = true
  | _, _, .nil, _ => rfl
  | _, _, .cons h g, f => by
    rw [List.all_cons, Bool.and_eq_true] at f
    rw [List.all_cons, dq_flat h f.1, dqAll_flat g f.2]
    rfl
theorem dq_eqv {x y : V} {d e : PyData} (hx : Dq K H x d) (hy : Dq K H y e) (fd : canFlat d = true) (fe : canFlat e = true) : eqV x y = PyData.eqv d e := by
  cases hx <;> cases hy <;> first | (cases fd; done) | (cases fe; done) | (simp [eqV, PyData.eqv])
theorem dq_in {x : V} {d : PyData} (hx : Dq K H x d) (fd : canFlat d = true) : ∀ {ys : List V} {es : List PyData}, DqAll K H ys es → es.all canFlat = true → inV x ys = es.any fun e => PyData.eqv e d
  | _, _, .nil, _ => rfl
  | y :: ys, e :: es, .cons h g, f => by
    rw [List.all_cons, Bool.and_eq_true] at f
    have ih := dq_in hx fd g f.2
    show (eqV y x || inV x ys) = (PyData.eqv e d || es.any fun e => PyData.eqv e d)
    rw [ih, dq_eqv h hx f.1 fd]
end
def cutD {α : Type} (xs : List α) (lo hi : Option Int) : List α := (xs.drop (HT.sIx xs.length 0 lo)).take (HT.sIx xs.length xs.length hi - HT.sIx xs.length 0 lo)
section
variable {K : PySem.W.Frag} {F : Hp} {Γ : List (Option Av)} {Ω : AH} {P : Av → AH → Prop} {ta tb te : TE} {i j : Int} {d e : PyData} {ds es : List PyData} {p : Addr} {as : List Av}
theorem DqAll.cut {H : Hp} {vs : List V} (h : DqAll K H vs ds) (lo hi : Option Int) : DqAll K H (cutV vs lo hi) (cutD ds lo hi) := by
  unfold cutV cutD
  rw [h.length]
  exact (h.drop _).take _
theorem atI_dq {H : Hp} {vs : List V} (h : DqAll K H vs ds) (e : atI ds i = some d) : ∃ v, atI vs i = some v ∧ Dq K H v d := by
  unfold atI at e ⊢
  rw [h.length]
  cases q : ixN ds.length i with
  | none => rw [q] at e; cases e
  | some j =>
    rw [q] at e
    exact h.get e
theorem atI_va {H : Hp} {vs : List V} {a : Av} (h : VAll K H as vs) (e : atI as i = some a) : ∃ v, atI vs i = some v ∧ VOk K H a v := by
  unfold atI at e ⊢
  rw [h.length]
  cases q : ixN as.length i with
  | none => rw [q] at e; cases e
  | some j =>
    rw [q] at e
    exact h.get e
theorem r_I0i {f : Int → Int → Int} (h : P (.dat (.int (f i j))) Ω) : R2W K (rI0 fun i j => .int (f i j)) (.dat (.int i)) (.dat (.int j)) Ω P := fun F H x y Q k hx hy q => by
  cases hx with | dat hx => cases hy with | dat hy =>
    cases hx
    cases hy
    exact ⟨_, _, rfl, rfl, q _ _ _ _ h k (.dat (.int _))⟩
theorem r_I0b {f : Int → Int → Bool} (h : P (.dat (.bool (f i j))) Ω) : R2W K (rI0 fun i j => .bl (f i j)) (.dat (.int i)) (.dat (.int j)) Ω P := fun F H x y Q k hx hy q => by
  cases hx with | dat hx => cases hy with | dat hy =>
    cases hx
    cases hy
    exact ⟨_, _, rfl, rfl, q _ _ _ _ h k (.dat (.bl _))⟩
theorem r_Ii {C : Int → Int → Prop} {f : Int → Int → Int} (c : C i j) (h : P (.dat (.int (f i j))) Ω) : R2W K (rI C fun i j => .int (f i j)) (.dat (.int i)) (.dat (.int j)) Ω P := fun F H x y Q k hx hy q => by
  cases hx with | dat hx => cases hy with | dat hy =>
    cases hx
    cases hy
    exact ⟨_, _, rfl, rfl, c, q _ _ _ _ h k (.dat (.int _))⟩
theorem r_neg (h : P (.dat (.int (-i))) Ω) : R1W K (rU fun i => .int (-i)) (.dat (.int i)) Ω P := fun F H x Q k hx q => by
  cases hx with | dat hx =>
    cases hx
    exact ⟨_, rfl, q _ _ _ _ h k (.dat (.int _))⟩
theorem r_eq (s : scalD d e = true) (h : P (.dat (.bool (eqD d e))) Ω) : R2W K rEq (.dat d) (.dat e) Ω P := fun F H x y Q k hx hy q => by
  cases hx with | dat hx => cases hy with | dat hy =>
    obtain ⟨h1, h2⟩ := dq_eq hx hy s
    refine ⟨h1, ?_⟩
    rw [h2]
    exact q _ _ _ _ h k (.dat (.bl _))
theorem r_ne (s : scalD d e = true) (h : P (.dat (.bool (!eqD d e))) Ω) : R2W K rNe (.dat d) (.dat e) Ω P := fun F H x y Q k hx hy q => by
  cases hx with | dat hx => cases hy with | dat hy =>
    obtain ⟨h1, h2⟩ := dq_eq hx hy s
    refine ⟨h1, ?_⟩
    rw [h2]
    exact q _ _ _ _ h k (.dat (.bl _))
theorem shaped_lay (h : SeqAt.shaped d = true) : d.canLay0 = true := SeqAt.canLay_of_shaped h
theorem r_eqD (s1 : SeqAt.shaped d = true) (s2 : SeqAt.shaped e = true) (h : P (.dat (.bool (PyData.eqv d e))) Ω) : R2W K (rEqD K) (.dat d) (.dat e) Ω P := fun F H x y Q k hx hy q => by
  cases hx with | dat hx => cases hy with | dat hy =>
    exact ⟨d, e, (hx.same Fz_le).dp (shaped_lay s1), (hy.same Fz_le).dp (shaped_lay s2), s1, s2, q _ _ _ _ h k (.dat (.bl _))⟩
theorem r_neD (s1 : SeqAt.shaped d = true) (s2 : SeqAt.shaped e = true) (h : P (.dat (.bool (!PyData.eqv d e))) Ω) : R2W K (rNeD K) (.dat d) (.dat e) Ω P := fun F H x y Q k hx hy q => by
  cases hx with | dat hx => cases hy with | dat hy =>
    exact ⟨d, e, (hx.same Fz_le).dp (shaped_lay s1), (hy.same Fz_le).dp (shaped_lay s2), s1, s2, q _ _ _ _ h k (.dat (.bl _))⟩
def rIsNo : R2 := fun x y H Q => y = .non ∧ Q (.bl (decide (x = .non))) H
def rNotNo : R2 := fun x y H Q => y = .non ∧ Q (.bl (!decide (x = .non))) H
theorem op_isNo {X : Cx} : OpR X (compareOp .Is) rIsNo := op_isN
theorem op_notNo {X : Cx} : OpR X (compareOp .IsNot) rNotNo := op_notN
def isNone : PyData → Bool
  | .none => true
  | _ => false
theorem dq_none {H : Hp} {v : V} (h : Dq K H v d) : decide (v = .non) = isNone d := by
  cases h <;> simp [isNone]
theorem r_isN (h : P (.dat (.bool (isNone d))) Ω) : R2W K rIsNo (.dat d) (.dat .none) Ω P := fun F H x y Q k hx hy q => by
  cases hx with | dat hx => cases hy with | dat hy =>
    cases hy
    refine ⟨rfl, ?_⟩
    rw [dq_none hx]
    exact q _ _ _ _ h k (.dat (.bl _))
theorem r_notN (h : P (.dat (.bool (!isNone d))) Ω) : R2W K rNotNo (.dat d) (.dat .none) Ω P := fun F H x y Q k hx hy q => by
  cases hx with | dat hx => cases hy with | dat hy =>
    cases hy
    refine ⟨rfl, ?_⟩
    rw [dq_none hx]
    exact q _ _ _ _ h k (.dat (.bl _))
/-! items -/
theorem r_ixT (a : atI ds i = some d) (h : P (.dat d) Ω) : R2W K (rIxT K) (.dat (.tuple ds)) (.dat (.int i)) Ω P := fun F H x y Q k hx hy q => by
  cases hx with | dat hx => cases hy with | dat hy =>
    cases hy
    cases hx with | tup hs g =>
      obtain ⟨v, e, hv⟩ := atI_dq g a
      exact ⟨_, _, _, v, rfl, rfl, sqT_same Fz_le hs, e, q _ _ _ _ h k (.dat hv)⟩
theorem r_ixL (a : atI ds i = some d) (h : P (.dat d) Ω) : R2W K (rIxL K) (.dat (.list ds)) (.dat (.int i)) Ω P := fun F H x y Q k hx hy q => by
  cases hx with | dat hx => cases hy with | dat hy =>
    cases hy
    cases hx with | lst hs g =>
      obtain ⟨v, e, hv⟩ := atI_dq g a
      exact ⟨_, _, _, v, rfl, rfl, SqL.of (Fz_le _ _ hs), e, q _ _ _ _ h k (.dat hv)⟩
theorem r_ixP {a : Av} (o : Ω p = some as) (a' : atI as i = some a) (h : P a Ω) : R2W K (rIxL K) (.ptr p) (.dat (.int i)) Ω P := fun F H x y Q k hx hy q => by
  cases hx
  cases hy with | dat hy =>
    cases hy
    obtain ⟨xs, h1, h2⟩ := k.st p as o
    obtain ⟨v, e, hv⟩ := atI_va h2 a'
    exact ⟨p, xs, i, v, rfl, rfl, SqL.of h1, e, q _ _ _ _ h k hv⟩
theorem r_ixS {ns : List Int} {n : Int} (a : atI ns i = some n) (h : P (.dat (.int n)) Ω) : R2W K (rIxL K) (.scr ns) (.dat (.int i)) Ω P := fun F H x y Q k hx hy q => by
  cases hx with | scr hs => cases hy with | dat hy =>
    cases hy
    refine ⟨_, _, _, .int n, rfl, rfl, Same.seq Fz_le hs, ?_, q _ _ _ _ h k (.dat (.int n))⟩
    unfold atI at a ⊢
    rw [List.length_map]
    cases e : ixN ns.length i with
    | none => rw [e] at a; cases a
    | some j =>
      rw [e] at a
      show (ns.map V.int)[j]? = _
      rw [List.getElem?_map, show ns[j]? = some n from a]
      rfl
theorem r_inT {neg : Bool} (fd : canFlat d = true) (fe : ds.all canFlat = true) (h : P (.dat (.bool (if neg then !(ds.any fun e => PyData.eqv e d) else ds.any fun e => PyData.eqv e d))) Ω) : R2W K (rIn K neg) (.dat d) (.dat (.tuple ds)) Ω P := fun F H x y Q k hx hy q => by
  cases hx with | dat hx => cases hy with | dat hy => cases hy with | tup hs g =>
    refine ⟨_, _, rfl, .inr (sqT_same Fz_le hs), dq_flat hx fd, dqAll_flat g fe, ?_⟩
    rw [dq_in hx fd g fe]
    exact q _ _ _ _ h k (.dat (.bl _))
theorem r_inL {neg : Bool} (fd : canFlat d = true) (fe : ds.all canFlat = true) (h : P (.dat (.bool (if neg then !(ds.any fun e => PyData.eqv e d) else ds.any fun e => PyData.eqv e d))) Ω) : R2W K (rIn K neg) (.dat d) (.dat (.list ds)) Ω P := fun F H x y Q k hx hy q => by
  cases hx with | dat hx => cases hy with | dat hy => cases hy with | lst hs g =>
    refine ⟨_, _, rfl, .inl (SqL.of (Fz_le _ _ hs)), dq_flat hx fd, dqAll_flat g fe, ?_⟩
    rw [dq_in hx fd g fe]
    exact q _ _ _ _ h k (.dat (.bl _))
/-! sums of tuples and lists, parts -/
theorem tup_new {F : Hp} {H : Hp} {xs : List V} {Γ : List (Option Av)} {σ : L2.St} (k : Ok K F Ω Γ σ H) (np : H p = none) (g : DqAll K (Fz Ω H) xs ds) : Dq K (Fz Ω (upd H p (.tup xs))) (.ref p) (.tuple ds) :=
  .tup (.inl (.inl (Fz_at (k.free np)))) (g.same (Fz_same (same_new np)))
theorem lst_new {F : Hp} {H : Hp} {xs : List V} {Γ : List (Option Av)} {σ : L2.St} (k : Ok K F Ω Γ σ H) (np : H p = none) (g : DqAll K (Fz Ω H) xs ds) : Dq K (Fz Ω (upd H p (.lst xs))) (.ref p) (.list ds) :=
  .lst (Fz_at (k.free np)) (g.same (Fz_same (same_new np)))
theorem r_catT (hl : ds.length + es.length ≤ 100000) (h : P (.dat (.tuple (ds ++ es))) Ω) : R2W K (rCatA K) (.dat (.tuple ds)) (.dat (.tuple es)) Ω P := fun F H x y Q k hx hy q => by
  cases hx with | dat hx => cases hy with | dat hy => cases hx with | tup h1 g1 => cases hy with | tup h2 g2 =>
    have l1 := g1.length
    have l2 := g2.length
    refine ⟨_, _, _, _, rfl, rfl, sqT_same Fz_le h1, sqT_same Fz_le h2, sz_of (by omega), fun e => ?_, fun _ e => ?_, fun _ _ p np => ?_⟩
    · subst e
      cases g1
      exact q _ _ _ _ h k (.dat (.tup h2 g2))
    · subst e
      cases g2
      rw [List.append_nil] at h
      exact q _ _ _ _ h k (.dat (.tup h1 g1))
    · exact q _ _ _ _ h (k.same (same_new np)) (.dat (tup_new k np (g1.app g2)))
theorem r_catL (hl : ds.length + es.length ≤ 100000) (h : P (.dat (.list (ds ++ es))) Ω) : R2W K rCat (.dat (.list ds)) (.dat (.list es)) Ω P := fun F H x y Q k hx hy q => by
  cases hx with | dat hx => cases hy with | dat hy => cases hx with | lst h1 g1 => cases hy with | lst h2 g2 =>
    have l1 := g1.length
    have l2 := g2.length
    exact ⟨_, _, _, _, rfl, rfl, Fz_le _ _ h1, Fz_le _ _ h2, sz_of (by omega), fun p np => q _ _ _ _ h (k.same (same_new np)) (.dat (lst_new k np (g1.app g2)))⟩
/-- the first a list that may change, the sum one that may change too -/
theorem r_catPP {bs : List Av} {p2 : Addr} (o1 : Ω p = some as) (o2 : Ω p2 = some bs) (hl : as.length + bs.length ≤ 100000) (h : ∀ q, Ω q = none → P (.ptr q) (put Ω q (as ++ bs))) : R2W K rCat (.ptr p) (.ptr p2) Ω P := fun F H x y Q k hx hy q => by
  cases hx
  cases hy
  obtain ⟨xs, h1, g1⟩ := k.st p as o1
  obtain ⟨ys, h2, g2⟩ := k.st p2 bs o2
  have l1 := g1.length
  have l2 := g2.length
  exact ⟨_, _, _, _, rfl, rfl, h1, h2, sz_of (by omega), fun z nz => q _ _ _ _ (h z (k.free nz)) (k.new nz (g1.app g2)) (.ptr z)⟩
theorem VAll.ofL {H : Hp} {a : Addr} (h : Dq K H (.ref a) (.list ds)) : ∃ xs, H a = some (.lst xs) ∧ VAll K H (ds.map .dat) xs := by
  cases h with | lst h g => exact ⟨_, h, .ofDats g⟩
theorem r_catPL (o1 : Ω p = some as) (hl : as.length + ds.length ≤ 100000) (h : ∀ q, Ω q = none → P (.ptr q) (put Ω q (as ++ ds.map .dat))) : R2W K rCat (.ptr p) (.dat (.list ds)) Ω P := fun F H x y Q k hx hy q => by
  cases hx
  cases hy with | dat hy => cases hy with | lst h2 g2 =>
    obtain ⟨xs, h1, g1⟩ := k.st p as o1
    have l1 := g1.length
    have l2 := g2.length
    exact ⟨_, _, _, _, rfl, rfl, h1, Fz_le _ _ h2, sz_of (by omega), fun z nz => q _ _ _ _ (h z (k.free nz)) (k.new nz (g1.app (.ofDats g2))) (.ptr z)⟩
/-! slices -/
theorem o_no {P : Option Int → AH → Prop} (h : P none Ω) : OW K tNoPart Γ Ω P := fun F σ H Q k q => q _ _ _ h k
theorem o_some {P : Option Int → AH → Prop} (h : EW K te Γ Ω fun a Ω1 => ∃ i, a = .dat (.int i) ∧ P (some i) Ω1) : OW K (tPart te) Γ Ω P := fun F σ H Q k q =>
  h F σ H _ k fun a v Ω1 H1 ⟨i, e, hp⟩ k1 v1 => by
    subst e
    cases v1 with | dat v1 =>
      cases v1
      exact ⟨i, rfl, q _ _ _ hp k1⟩
theorem e_slT {tl th : TO} (h : EW K te Γ Ω fun a Ω1 => ∃ ds, a = .dat (.tuple ds) ∧ OW K tl Γ Ω1 fun lo Ω2 => OW K th Γ Ω2 fun hi Ω3 => P (.dat (.tuple (cutD ds lo hi))) Ω3) : EW K (tSl (rSlA K) te tl th) Γ Ω P := fun F σ H Q k q =>
  h F σ H _ k fun a v Ω1 H1 ⟨ds, e, h1⟩ k1 v1 => by
    subst e
    cases v1 with | dat v1 =>
      refine h1 (Fz Ω1 H1) σ H1 _ k1.re fun lo Ω2 H2 h2 k2 => h2 (Fz Ω2 H2) σ H2 _ k2.re fun hi Ω3 H3 h3 k3 => ?_
      have k3' := k3.anchor (k1.fr.trans k2.fr)
      have v3 := (v1.same k2.fr).same k3.fr
      cases v3 with | tup hs g =>
        have l := g.length
        refine ⟨_, _, rfl, sqT_same Fz_le hs, fun w => ?_, fun _ p np => ?_⟩
        · have e2 : cutD ds lo hi = ds := by
            unfold cutD
            rw [← l, w.1, w.2]
            rw [List.drop_zero, l]
            exact List.take_of_length_le (by omega)
          have h4 : P (.dat (.tuple (cutD ds lo hi))) Ω3 := h3
          rw [e2] at h4
          exact q _ _ _ _ h4 k3' (.dat (.tup hs g))
        · exact q _ _ _ _ h3 (k3'.same (same_new np)) (.dat (tup_new k3' np (g.cut lo hi)))
theorem e_slL {tl th : TO} (h : EW K te Γ Ω fun a Ω1 => ∃ ds, a = .dat (.list ds) ∧ OW K tl Γ Ω1 fun lo Ω2 => OW K th Γ Ω2 fun hi Ω3 => P (.dat (.list (cutD ds lo hi))) Ω3) : EW K (tSl (rSlL K) te tl th) Γ Ω P := fun F σ H Q k q =>
  h F σ H _ k fun a v Ω1 H1 ⟨ds, e, h1⟩ k1 v1 => by
    subst e
    cases v1 with | dat v1 =>
      refine h1 (Fz Ω1 H1) σ H1 _ k1.re fun lo Ω2 H2 h2 k2 => h2 (Fz Ω2 H2) σ H2 _ k2.re fun hi Ω3 H3 h3 k3 => ?_
      have k3' := k3.anchor (k1.fr.trans k2.fr)
      have v3 := (v1.same k2.fr).same k3.fr
      cases v3 with | lst hs g =>
        exact ⟨_, _, rfl, SqL.of (Fz_le _ _ hs), fun p np => q _ _ _ _ h3 (k3'.same (same_new np)) (.dat (lst_new k3' np (g.cut lo hi)))⟩
/-! ### calls of built-ins -/
def rLenQ (K : PySem.W.Frag) : List V → Hp → VK → Prop := fun xs H Q => ∃ p ys, xs = [.ref p] ∧ (SqL K H p ys ∨ SqT K H p ys) ∧ Q (.int ys.length) H
theorem cl_len {X : Cx} : CallR X (.builtin "len") (rLenQ X.K) := call_len_seq
theorem c_lenT (h : P (.dat (.int ds.length)) Ω) : RCW K (rLenQ K) [.dat (.tuple ds)] Ω P := fun F H xs Q k hx q => by
  cases hx with | cons hx g => cases g; cases hx with | dat hx => cases hx with | tup hs g =>
    refine ⟨_, _, rfl, .inr (sqT_same Fz_le hs), ?_⟩
    rw [g.length]
    exact q _ _ _ _ h k (.dat (.int _))
theorem c_lenL (h : P (.dat (.int ds.length)) Ω) : RCW K (rLenQ K) [.dat (.list ds)] Ω P := fun F H xs Q k hx q => by
  cases hx with | cons hx g => cases g; cases hx with | dat hx => cases hx with | lst hs g =>
    refine ⟨_, _, rfl, .inl (SqL.of (Fz_le _ _ hs)), ?_⟩
    rw [g.length]
    exact q _ _ _ _ h k (.dat (.int _))
theorem c_lenP (o : Ω p = some as) (h : P (.dat (.int as.length)) Ω) : RCW K (rLenQ K) [.ptr p] Ω P := fun F H xs Q k hx q => by
  cases hx with | cons hx g =>
    cases g
    cases hx
    obtain ⟨ys, h1, h2⟩ := k.st p as o
    refine ⟨p, ys, rfl, .inl (SqL.of h1), ?_⟩
    rw [h2.length]
    exact q _ _ _ _ h k (.dat (.int _))
theorem c_lenS {ns : List Int} (h : P (.dat (.int ns.length)) Ω) : RCW K (rLenQ K) [.scr ns] Ω P := fun F H xs Q k hx q => by
  cases hx with | cons hx g => cases g; cases hx with | scr hs =>
    refine ⟨_, _, rfl, .inl (Same.seq Fz_le hs), ?_⟩
    rw [List.length_map]
    exact q _ _ _ _ h k (.dat (.int _))
def rAbsQ : List V → Hp → VK → Prop := fun xs H Q => ∃ i, xs = [.int i] ∧ Q (.int (if i < 0 then -i else i)) H
theorem cl_abs {X : Cx} : CallR X (.builtin "abs") rAbsQ := call_abs
theorem c_abs (h : P (.dat (.int (if i < 0 then -i else i))) Ω) : RCW K rAbsQ [.dat (.int i)] Ω P := fun F H xs Q k hx q => by
  cases hx with | cons hx g => cases g; cases hx with | dat hx =>
    cases hx
    exact ⟨i, rfl, q _ _ _ _ h k (.dat (.int _))⟩
def rMax2Q : List V → Hp → VK → Prop := fun xs H Q => ∃ i j, xs = [.int i, .int j] ∧ Q (.int (if j > i then j else i)) H
def rMin2Q : List V → Hp → VK → Prop := fun xs H Q => ∃ i j, xs = [.int i, .int j] ∧ Q (.int (if j < i then j else i)) H
theorem cl_max2 {X : Cx} (hc : X.calm = true) : CallR X (.builtin "max") rMax2Q := call_max2 hc
theorem cl_min2 {X : Cx} (hc : X.calm = true) : CallR X (.builtin "min") rMin2Q := call_min2 hc
theorem c_max2 (h : P (.dat (.int (if j > i then j else i))) Ω) : RCW K rMax2Q [.dat (.int i), .dat (.int j)] Ω P := fun F H xs Q k hx q => by
  cases hx with | cons hx g => cases g with | cons hy g => cases g; cases hx with | dat hx => cases hy with | dat hy =>
    cases hx
    cases hy
    exact ⟨i, j, rfl, q _ _ _ _ h k (.dat (.int _))⟩
theorem c_min2 (h : P (.dat (.int (if j < i then j else i))) Ω) : RCW K rMin2Q [.dat (.int i), .dat (.int j)] Ω P := fun F H xs Q k hx q => by
  cases hx with | cons hx g => cases g with | cons hy g => cases g; cases hx with | dat hx => cases hy with | dat hy =>
    cases hx
    cases hy
    exact ⟨i, j, rfl, q _ _ _ _ h k (.dat (.int _))⟩
def rIntQ : List V → Hp → VK → Prop := fun xs H Q => (∃ i, xs = [.int i] ∧ Q (.int i) H) ∨ ∃ k, xs = [.bl k] ∧ Q (.int (if k then 1 else 0)) H
theorem cl_int {X : Cx} : CallR X (.type "int") rIntQ := call_int1
theorem c_intI (h : P (.dat (.int i)) Ω) : RCW K rIntQ [.dat (.int i)] Ω P := fun F H xs Q k hx q => by
  cases hx with | cons hx g => cases g; cases hx with | dat hx =>
    cases hx
    exact .inl ⟨i, rfl, q _ _ _ _ h k (.dat (.int _))⟩
theorem c_intB {b : Bool} (h : P (.dat (.int (if b then 1 else 0))) Ω) : RCW K rIntQ [.dat (.bool b)] Ω P := fun F H xs Q k hx q => by
  cases hx with | cons hx g => cases g; cases hx with | dat hx =>
    cases hx
    exact .inr ⟨b, rfl, q _ _ _ _ h k (.dat (.int _))⟩
theorem dq_intsL {H : Hp} {v : V} {ns : List Int} (h : Dq K H v (.list (ns.map PyData.int))) : ∃ a, v = .ref a ∧ H a = some (.lst (ns.map V.int)) := by
  cases h with | lst h g =>
    rw [g.ints] at h
    exact ⟨_, rfl, h⟩
theorem c_sum {ns : List Int} (h : P (.dat (.int ns.sum)) Ω) : RCW K (rSum K) [.dat (.list (ns.map PyData.int))] Ω P := fun F H xs Q k hx q => by
  cases hx with | cons hx g => cases g; cases hx with | dat hx =>
    obtain ⟨a, rfl, ha⟩ := dq_intsL hx
    exact ⟨a, ns, rfl, SqL.of (Fz_le _ _ ha), q _ _ _ _ h k (.dat (.int _))⟩
theorem c_max {ns : List Int} (ne : 0 < ns.length) (h : ∀ m, m ∈ ns → (∀ y, y ∈ ns → y ≤ m) → P (.dat (.int m)) Ω) : RCW K (rMax K) [.dat (.list (ns.map PyData.int))] Ω P := fun F H xs Q k hx q => by
  cases hx with | cons hx g => cases g; cases hx with | dat hx =>
    obtain ⟨a, rfl, ha⟩ := dq_intsL hx
    exact ⟨a, ns, rfl, SqL.of (Fz_le _ _ ha), ne, fun m h1 h2 => q _ _ _ _ (h m h1 h2) k (.dat (.int _))⟩
theorem c_min {ns : List Int} (ne : 0 < ns.length) (h : ∀ m, m ∈ ns → (∀ y, y ∈ ns → m ≤ y) → P (.dat (.int m)) Ω) : RCW K (rMin K) [.dat (.list (ns.map PyData.int))] Ω P := fun F H xs Q k hx q => by
  cases hx with | cons hx g => cases g; cases hx with | dat hx =>
    obtain ⟨a, rfl, ha⟩ := dq_intsL hx
    exact ⟨a, ns, rfl, SqL.of (Fz_le _ _ ha), ne, fun m h1 h2 => q _ _ _ _ (h m h1 h2) k (.dat (.int _))⟩
theorem c_sorted {ns : List Int} (l : ns.length < 64) (h : ∀ ns' : List Int, ns'.Perm ns → ns'.Pairwise (· ≤ ·) → P (.dat (.list (ns'.map PyData.int))) Ω) : RCW K (rSorted K) [.dat (.list (ns.map PyData.int))] Ω P := fun F H xs Q k hx q => by
  cases hx with | cons hx g => cases g; cases hx with | dat hx =>
    obtain ⟨a, rfl, ha⟩ := dq_intsL hx
    exact ⟨a, ns, rfl, SqL.of (Fz_le _ _ ha), l, fun ns' p h1 h2 np => q _ _ _ _ (h ns' h1 h2) (k.same (same_new np)) (.dat (lst_new k np .ofInts))⟩
theorem dq_bools : ∀ {H : Hp} {bs : List Bool} {vs : List V}, DqAll K H vs (bs.map PyData.bool) → vs = bs.map V.bl
  | _, [], _, h => by cases h; rfl
  | _, b :: r, _, h => by
    rw [List.map_cons] at h
    cases h with | cons h g =>
      cases h
      rw [dq_bools g, List.map_cons]
theorem c_all {bs : List Bool} (h : P (.dat (.bool (bs.all id))) Ω) : RCW K (rAll K) [.dat (.list (bs.map PyData.bool))] Ω P := fun F H xs Q k hx q => by
  cases hx with | cons hx g => cases g; cases hx with | dat hx => cases hx with | lst hs g =>
    rw [dq_bools g] at hs
    exact ⟨_, bs, rfl, SqL.of (Fz_le _ _ hs), q _ _ _ _ h k (.dat (.bl _))⟩
theorem c_any {bs : List Bool} (h : P (.dat (.bool (bs.any id))) Ω) : RCW K (rAny K) [.dat (.list (bs.map PyData.bool))] Ω P := fun F H xs Q k hx q => by
  cases hx with | cons hx g => cases g; cases hx with | dat hx => cases hx with | lst hs g =>
    rw [dq_bools g] at hs
    exact ⟨_, bs, rfl, SqL.of (Fz_le _ _ hs), q _ _ _ _ h k (.dat (.bl _))⟩
/-! isinstance -/
def kindD : PyData → String
  | .none => "NoneType"
  | .bool _ => "bool"
  | .int _ => "int"
  | .str _ => "str"
  | .list _ => "list"
  | .tuple _ => "tuple"
  | .dict _ => "dict"
theorem dq_ty {H : Hp} {v : V} (h : Dq K H v d) : TyX K H v (.type (kindD d)) := by
  cases h with
  | non => exact .base .non
  | bl b => exact .base (.bl b)
  | int i => exact .base (.int i)
  | str x => exact .base (.str x)
  | lst h _ => exact .base (.lst h)
  | tup h _ =>
    rcases h with (h | ⟨o, h⟩) | ⟨o, its, n, h, hc, _⟩
    · exact .base (.tup h)
    · exact .fTuple h
    · exact .kTuple h hc
  | dct h => exact .base (.dK h)
def isIntD : PyData → Bool
  | .int _ => true
  | .bool _ => true
  | _ => false
def isBoolD : PyData → Bool
  | .bool _ => true
  | _ => false
def isStrD : PyData → Bool
  | .str _ => true
  | _ => false
def isTupD : PyData → Bool
  | .tuple _ => true
  | _ => false
def isLstD : PyData → Bool
  | .list _ => true
  | _ => false
theorem kit_int : kitB (kindD d) "int" = some (isIntD d) := by cases d <;> (simp only [kindD, isIntD]; decide +kernel)
theorem kit_bool : kitB (kindD d) "bool" = some (isBoolD d) := by cases d <;> (simp only [kindD, isBoolD]; decide +kernel)
theorem kit_str : kitB (kindD d) "str" = some (isStrD d) := by cases d <;> (simp only [kindD, isStrD]; decide +kernel)
theorem kit_tuple : kitB (kindD d) "tuple" = some (isTupD d) := by cases d <;> (simp only [kindD, isTupD]; decide +kernel)
theorem kit_list : kitB (kindD d) "list" = some (isLstD d) := by cases d <;> (simp only [kindD, isLstD]; decide +kernel)
theorem e_ty {T : String} (h : P (.ty T) Ω) : EW K (tC (.ty T)) Γ Ω P := fun F σ H Q k q => q _ _ Ω H h k (.ty T)
theorem c_isi {T : String} {b : Bool} (e : kitB (kindD d) T = some b) (h : P (.dat (.bool b)) Ω) : RCW K (rIsi K) [.dat d, .ty T] Ω P := fun F H xs Q k hx q => by
  cases hx with | cons hx g => cases g with | cons hy g => cases g; cases hx with | dat hx => cases hy with | ty T =>
    exact ⟨_, _, _, _, b, rfl, .ty T, dq_ty (hx.same Fz_le), kit_ty e, q _ _ _ _ h k (.dat (.bl _))⟩
theorem c_isiP {T : String} {b : Bool} (o : Ω p = some as) (e : kitB "list" T = some b) (h : P (.dat (.bool b)) Ω) : RCW K (rIsi K) [.ptr p, .ty T] Ω P := fun F H xs Q k hx q => by
  cases hx with | cons hx g => cases g with | cons hy g =>
    cases g
    cases hx
    cases hy with | ty T =>
      obtain ⟨ys, h1, h2⟩ := k.st p as o
      exact ⟨_, _, _, _, b, rfl, .ty T, .base (.lst h1), kit_ty e, q _ _ _ _ h k (.dat (.bl _))⟩
/-! tuple(x), list(x) -/
theorem r_tupL (h : P (.dat (.tuple ds)) Ω) : R1W K (kTup K) (.dat (.list ds)) Ω P := fun F H x Q k hx q => by
  cases hx with | dat hx => cases hx with | lst hs g =>
    exact .inl ⟨_, _, rfl, SqL.of (Fz_le _ _ hs), fun p np => q _ _ _ _ h (k.same (same_new np)) (.dat (tup_new k np g))⟩
theorem r_tupT (h : P (.dat (.tuple ds)) Ω) : R1W K (kTup K) (.dat (.tuple ds)) Ω P := fun F H x Q k hx q => by
  cases hx with | dat hx => cases hx with | tup hs g =>
    exact .inr ⟨_, _, rfl, sqT_same Fz_le hs, q _ _ _ _ h k (.dat (.tup hs g))⟩
theorem r_tupP (o : Ω p = some (ds.map .dat)) (h : P (.dat (.tuple ds)) (del Ω p)) : R1W K (kTup K) (.ptr p) Ω P := fun F H x Q k hx q => by
  cases hx
  obtain ⟨k2, d2⟩ := k.frz o
  cases d2 with | lst hs g =>
    exact .inl ⟨_, _, rfl, SqL.of (Fz_le _ _ hs), fun u nu => q _ _ _ _ h (k2.same (same_new nu)) (.dat (tup_new k2 nu g))⟩
def rListQ (K : PySem.W.Frag) : List V → Hp → VK → Prop := fun xs H Q => ∃ p ys, xs = [.ref p] ∧ (SqL K H p ys ∨ SqT K H p ys) ∧ ∀ l, H l = none → Q (.ref l) (upd H l (.lst ys))
theorem cl_list {X : Cx} : CallR X (.type "list") (rListQ X.K) := call_list_of
theorem c_listT (h : P (.dat (.list ds)) Ω) : RCW K (rListQ K) [.dat (.tuple ds)] Ω P := fun F H xs Q k hx q => by
  cases hx with | cons hx g => cases g; cases hx with | dat hx => cases hx with | tup hs g =>
    exact ⟨_, _, rfl, .inr (sqT_same Fz_le hs), fun l nl => q _ _ _ _ h (k.same (same_new nl)) (.dat (lst_new k nl g))⟩
theorem c_listL (h : P (.dat (.list ds)) Ω) : RCW K (rListQ K) [.dat (.list ds)] Ω P := fun F H xs Q k hx q => by
  cases hx with | cons hx g => cases g; cases hx with | dat hx => cases hx with | lst hs g =>
    exact ⟨_, _, rfl, .inl (SqL.of (Fz_le _ _ hs)), fun l nl => q _ _ _ _ h (k.same (same_new nl)) (.dat (lst_new k nl g))⟩
theorem c_listTP (h : ∀ l, Ω l = none → P (.ptr l) (put Ω l (ds.map .dat))) : RCW K (rListQ K) [.dat (.tuple ds)] Ω P := fun F H xs Q k hx q => by
  cases hx with | cons hx g => cases g; cases hx with | dat hx => cases hx with | tup hs g =>
    exact ⟨_, _, rfl, .inr (sqT_same Fz_le hs), fun l nl => q _ _ _ _ (h l (k.free nl)) (k.new nl (.ofDats g)) (.ptr l)⟩
theorem c_listLP (h : ∀ l, Ω l = none → P (.ptr l) (put Ω l (ds.map .dat))) : RCW K (rListQ K) [.dat (.list ds)] Ω P := fun F H xs Q k hx q => by
  cases hx with | cons hx g => cases g; cases hx with | dat hx => cases hx with | lst hs g =>
    exact ⟨_, _, rfl, .inl (SqL.of (Fz_le _ _ hs)), fun l nl => q _ _ _ _ (h l (k.free nl)) (k.new nl (.ofDats g)) (.ptr l)⟩
end
end Dat

set_option Elab.async false
set_option linter.all false
set_option maxRecDepth 100000
set_option maxHeartbeats 1000000
namespace Dat
open PySem PySem.Spec PyProof.Rows L2
/-! ### targets -/
def GW (K : PySem.W.Frag) (g : TG) (a : Av) (Γ : List (Option Av)) (Ω : AH) (P : List (Option Av) → AH → Prop) : Prop :=
  ∀ (F : Hp) (σ : L2.St) (H : Hp) (v : V) (Q : L2.St → Hp → Prop), Ok K F Ω Γ σ H → VOk K (Fz Ω H) a v → (∀ Γ' σ' Ω' H', P Γ' Ω' → Ok K F Ω' Γ' σ' H' → Q σ' H') → g v σ H Q
def GsW (K : PySem.W.Frag) (g : TGs) (as : List Av) (Γ : List (Option Av)) (Ω : AH) (P : List (Option Av) → AH → Prop) : Prop :=
  ∀ (F : Hp) (σ : L2.St) (H : Hp) (vs : List V) (Q : L2.St → Hp → Prop), Ok K F Ω Γ σ H → VAll K (Fz Ω H) as vs → (∀ Γ' σ' Ω' H', P Γ' Ω' → Ok K F Ω' Γ' σ' H' → Q σ' H') → g vs σ H Q
structure EndA where
  nx : List (Option Av) → AH → Prop
  rt : Av → AH → Prop
  bk : List (Option Av) → AH → Prop := fun _ _ => False
  ct : List (Option Av) → AH → Prop := fun _ _ => False
structure EndOk (K : PySem.W.Frag) (F : Hp) (E : EndA) (D : Ends) : Prop where
  nx : ∀ Γ σ Ω H, E.nx Γ Ω → Ok K F Ω Γ σ H → D.nx σ H
  rt : ∀ a v Ω H, E.rt a Ω → Ok K F Ω [] [] H → VOk K (Fz Ω H) a v → D.rt v H
  bk : ∀ Γ σ Ω H, E.bk Γ Ω → Ok K F Ω Γ σ H → D.bk σ H
  ct : ∀ Γ σ Ω H, E.ct Γ Ω → Ok K F Ω Γ σ H → D.ct σ H
def SW (K : PySem.W.Frag) (ts : TS) (Γ : List (Option Av)) (Ω : AH) (E : EndA) : Prop :=
  ∀ (F : Hp) (σ : L2.St) (H : Hp) (D : Ends), Ok K F Ω Γ σ H → EndOk K F E D → ts D σ H
theorem EndOk.anchor {K : PySem.W.Frag} {F F1 : Hp} {E : EndA} {D : Ends} (e : EndOk K F E D) (s : Same F F1) : EndOk K F1 E D :=
  ⟨fun Γ σ Ω H h k => e.nx Γ σ Ω H h (k.anchor s), fun a v Ω H h k => e.rt a v Ω H h (k.anchor s), fun Γ σ Ω H h k => e.bk Γ σ Ω H h (k.anchor s), fun Γ σ Ω H h k => e.ct Γ σ Ω H h (k.anchor s)⟩
section
variable {K : PySem.W.Frag} {Γ : List (Option Av)} {Ω : AH} {E : EndA} {te ta tb : TE} {t u w : TS} {tt : TT} {g : TG} {gs : TGs} {tl : TA} {i j : Nat} {a : Av} {as : List Av} {ds : List PyData}
theorem g_name {P : List (Option Av) → AH → Prop} (h : P (Γ.set i (some a)) Ω) : GW K (gName i) a Γ Ω P := fun F σ H v Q k hv q => q _ _ _ _ h (k.set hv i)
theorem g_tup {n : Nat} {P : List (Option Av) → AH → Prop} (l : ds.length = n) (h : GsW K gs (ds.map .dat) Γ Ω P) : GW K (gTup K n gs) (.dat (.tuple ds)) Γ Ω P := fun F σ H v Q k hv q => by
  cases hv with | dat hv => cases hv with | tup hs g =>
    exact ⟨_, _, rfl, sqT_same Fz_le hs, by rw [g.length, l], h F σ H _ Q k (.ofDats g) q⟩
theorem g_tupA {n : Nat} {P : List (Option Av) → AH → Prop} (l : as.length = n) (h : GsW K gs as Γ Ω P) : GW K (gTup K n gs) (.tup as) Γ Ω P := fun F σ H v Q k hv q => by
  cases hv with | tup hs g =>
    exact ⟨_, _, rfl, SqT.of (Fz_le _ _ hs), by rw [g.length, l], h F σ H _ Q k g q⟩
theorem gs_nil {P : List (Option Av) → AH → Prop} (h : P Γ Ω) : GsW K gNil [] Γ Ω P := fun F σ H vs Q k hv q => by
  cases hv
  exact ⟨rfl, q _ _ _ _ h k⟩
theorem gs_cons {P : List (Option Av) → AH → Prop} (h : GW K g a Γ Ω fun Γ1 Ω1 => Ω1 = Ω ∧ GsW K gs as Γ1 Ω1 P) : GsW K (gCons g gs) (a :: as) Γ Ω P := fun F σ H vs Q k hv q => by
  cases hv with | cons hv hr =>
    exact ⟨_, _, rfl, h (Fz Ω H) σ H _ _ k.re hv fun Γ1 σ1 Ω1 H1 ⟨e, h1⟩ k1 => h1 F σ1 H1 _ Q (k1.anchor k.fr) (hr.same k1.fr) q⟩
/-! ### statements -/
theorem s_next (h : E.nx Γ Ω) : SW K tNext Γ Ω E := fun F σ H D k e => e.nx _ _ _ _ h k
theorem s_seq (h : SW K t Γ Ω { E with nx := fun Γ' Ω' => SW K u Γ' Ω' E }) : SW K (tSeq t u) Γ Ω E := fun F σ H D k e =>
  h F σ H { D with nx := u D } k ⟨fun Γ' σ' Ω' H' h' k' => h' F σ' H' D k' e, e.rt, e.bk, e.ct⟩
theorem s_cut (M : List (Option Av) → AH → Prop) (h : SW K t Γ Ω { E with nx := M }) (h2 : ∀ Γ' Ω', M Γ' Ω' → SW K u Γ' Ω' E) : SW K (C8.tCut t u) Γ Ω E := fun F σ H D k e =>
  ⟨fun σ' H' => ∃ Γ' Ω', M Γ' Ω' ∧ Ok K F Ω' Γ' σ' H', h F σ H _ k ⟨fun Γ' σ' Ω' H' hm k' => ⟨Γ', Ω', hm, k'⟩, e.rt, e.bk, e.ct⟩, fun σ' H' ⟨Γ', Ω', hm, k'⟩ => h2 Γ' Ω' hm F σ' H' D k' e⟩
theorem s_seqM (M : List (Option Av) → AH → Prop) (h : SW K t Γ Ω { E with nx := M }) (h2 : ∀ Γ' Ω', M Γ' Ω' → SW K u Γ' Ω' E) : SW K (tSeq t u) Γ Ω E := fun F σ H D k e =>
  h F σ H { D with nx := u D } k ⟨fun Γ' σ' Ω' H' hm k' => h2 Γ' Ω' hm F σ' H' D k' e, e.rt, e.bk, e.ct⟩
theorem SW.mono {E' : EndA} (h : SW K t Γ Ω E) (n : ∀ Γ' Ω', E.nx Γ' Ω' → E'.nx Γ' Ω') (r : ∀ a Ω', E.rt a Ω' → E'.rt a Ω') (b : ∀ Γ' Ω', E.bk Γ' Ω' → E'.bk Γ' Ω') (c : ∀ Γ' Ω', E.ct Γ' Ω' → E'.ct Γ' Ω') : SW K t Γ Ω E' := fun F σ H D k e =>
  h F σ H D k ⟨fun Γ' σ' Ω' H' z => e.nx _ _ _ _ (n _ _ z), fun a v Ω' H' z => e.rt _ _ _ _ (r _ _ z), fun Γ' σ' Ω' H' z => e.bk _ _ _ _ (b _ _ z), fun Γ' σ' Ω' H' z => e.ct _ _ _ _ (c _ _ z)⟩
theorem s_asgG (h : EW K te Γ Ω fun a Ω1 => GW K g a Γ Ω1 E.nx) : SW K (tAsg te g) Γ Ω E := fun F σ H D k e =>
  h F σ H _ k fun a v Ω1 H1 h1 k1 v1 => h1 F σ H1 v D.nx k1 v1 fun Γ' σ' Ω' H' h' k' => e.nx _ _ _ _ h' k'
theorem s_asg (h : EW K te Γ Ω fun a Ω1 => E.nx (Γ.set i (some a)) Ω1) : SW K (tAsg te (gName i)) Γ Ω E := fun F σ H D k e =>
  h F σ H _ k fun a v Ω1 H1 h1 k1 v1 => e.nx _ _ _ _ h1 (k1.set v1 i)
theorem s_par (h : AW K tl Γ Ω fun as Ω1 => ∃ a b, as = [a, b] ∧ E.nx ((Γ.set i (some a)).set j (some b)) Ω1) : SW K (tPar i j tl) Γ Ω E := fun F σ H D k e =>
  h F σ H _ k fun as vs Ω1 H1 ⟨a, b, ea, h1⟩ k1 v1 => by
    subst ea
    cases v1 with | cons va v1 => cases v1 with | cons vb v1 =>
      cases v1
      exact ⟨_, _, rfl, e.nx _ _ _ _ h1 ((k1.set va i).set vb j)⟩
theorem s_aug {f : Int → Int → Int} {x : Int} (hx : Γ[i]? = some (some (.dat (.int x)))) (h : EW K te Γ Ω fun a Ω1 => ∃ y, a = .dat (.int y) ∧ E.nx (Γ.set i (some (.dat (.int (f x y))))) Ω1) : SW K (tAug i te (ipI f)) Γ Ω E := fun F σ H D k e => by
  obtain ⟨v, ev, hv⟩ := k.val hx
  cases hv with | dat hv =>
    cases hv
    refine ⟨_, ev, h F σ H _ k fun a v Ω1 H1 ⟨y, ea, h1⟩ k1 v1 => ?_⟩
    subst ea
    cases v1 with | dat v1 =>
      cases v1
      exact ⟨x, y, rfl, rfl, e.nx _ _ _ _ h1 (k1.set (.dat (.int _)) i)⟩
theorem s_drop (h : EW K te Γ Ω fun _ Ω1 => E.nx Γ Ω1) : SW K (tDrop te) Γ Ω E := fun F σ H D k e => h F σ H _ k fun a v Ω1 H1 h1 k1 v1 => e.nx _ _ _ _ h1 k1
theorem s_ret (h : EW K te Γ Ω E.rt) : SW K (tRet te) Γ Ω E := fun F σ H D k e => h F σ H _ k fun a v Ω1 H1 h1 k1 v1 => e.rt _ _ _ _ h1 k1.bare v1
theorem s_retN (h : E.rt (.dat .none) Ω) : SW K tRetN Γ Ω E := fun F σ H D k e => e.rt _ _ _ _ h k.bare (.dat .non)
theorem s_brk (h : E.bk Γ Ω) : SW K tBreak Γ Ω E := fun F σ H D k e => e.bk _ _ _ _ h k
theorem s_cont (h : E.ct Γ Ω) : SW K tCont Γ Ω E := fun F σ H D k e => e.ct _ _ _ _ h k
theorem s_if (h : TW K tt Γ Ω fun b Ω1 => (b = true → SW K t Γ Ω1 E) ∧ (b = false → SW K u Γ Ω1 E)) : SW K (tIfS tt t u) Γ Ω E := fun F σ H D k e =>
  h F σ H _ k fun b Ω1 H1 hp k1 => by
    cases b with
    | true => exact hp.1 rfl F σ H1 D k1 e
    | false => exact hp.2 rfl F σ H1 D k1 e
/-- xs.append(e) -/
theorem e_app {P : Av → AH → Prop} (h : EW K ta Γ Ω fun a Ω1 => ∃ p, a = .ptr p ∧ (∃ bs, Ω1 p = some bs) ∧ AW K tl Γ Ω1 fun cs Ω2 => ∃ b as, cs = [b] ∧ Ω2 p = some as ∧ as.length < 100000 ∧ P (.dat .none) (put Ω2 p (as ++ [b]))) : EW K (tBM K "list" rAppend ta tl) Γ Ω P := fun F σ H Q k q =>
  h F σ H _ k fun a v Ω1 H1 ⟨p, ea, ⟨bs, eb⟩, h1⟩ k1 v1 => by
    subst ea
    cases v1
    obtain ⟨zs, hz, _⟩ := k1.st p bs eb
    refine ⟨.inl ⟨rfl, _, SqL.of hz⟩, h1 F σ H1 _ k1 fun cs vs Ω2 H2 ⟨b, as, ec, e2, l, hp⟩ k2 v2 => ?_⟩
    subst ec
    cases v2 with | cons vb v2 =>
      cases v2
      obtain ⟨xs, hx, g⟩ := k2.st p as e2
      have lx := g.length
      exact ⟨p, xs, _, rfl, rfl, hx, sz_lt (by omega), q _ _ _ _ hp (k2.put e2 (g.app (.cons vb .nil))) (.dat .non)⟩
/-- xs[i] = e -/
theorem s_setL (h : EW K te Γ Ω fun a Ω1 => EW K ta Γ Ω1 fun o Ω2 => ∃ p, o = .ptr p ∧ EW K tb Γ Ω2 fun c Ω3 => ∃ (z : Int) (as : List Av) (j : Nat), c = .dat (.int z) ∧ Ω3 p = some as ∧ ixN as.length z = some j ∧ E.nx Γ (put Ω3 p (as.set j a))) : SW K (tAsg te (gSub ta tb rSetL)) Γ Ω E := fun F σ H D k e =>
  h F σ H _ k fun a v Ω1 H1 h1 k1 v1 => h1 (Fz Ω1 H1) σ H1 _ k1.re fun o x Ω2 H2 ⟨p, eo, h2⟩ k2 v2 => by
    subst eo
    cases v2
    refine h2 (Fz Ω2 H2) σ H2 _ k2.re fun c y Ω3 H3 ⟨z, as, jj, ec, ep, ej, hn⟩ k3 v3 => ?_
    subst ec
    cases v3 with | dat v3 =>
      cases v3
      obtain ⟨xs, hx, g⟩ := k3.st p as ep
      refine ⟨p, xs, z, jj, rfl, rfl, hx, ?_, e.nx _ _ _ _ hn ((k3.anchor (k1.fr.trans k2.fr)).put ep (g.set jj ((v1.same k2.fr).same k3.fr)))⟩
      rw [g.length]
      exact ej
/-! ### walks -/
structure WalkA (K : PySem.W.Frag) (F : Hp) (J : It) (as : List Av) : Prop where
  go : ∀ (Ω : AH) (H : Hp), Ok K F Ω [] [] H → ∀ i a, as[i]? = some a → J.go i H ∧ ∀ x H', J.yld i H x H' → Same H H' ∧ VOk K (Fz Ω H') a x
  stop : ∀ (Ω : AH) (H : Hp), Ok K F Ω [] [] H → J.stop as.length H
def IW (K : PySem.W.Frag) (wi : TI) (Γ : List (Option Av)) (Ω : AH) (P : List Av → AH → Prop) : Prop :=
  ∀ (F : Hp) (σ : L2.St) (H : Hp) (R : It → Hp → Prop), Ok K F Ω Γ σ H → (∀ as Ω' H' J, P as Ω' → Ok K F Ω' Γ σ H' → WalkA K (Fz Ω' H') J as → R J H') → wi σ H R
theorem walk_t {F : Hp} {a : Addr} {xs : List V} (h : SqT K F a xs) (g : DqAll K F xs ds) : WalkA K F (Itt K a) (ds.map .dat) := by
  constructor
  · intro Ω H k i b e
    rw [List.getElem?_map] at e
    cases ed : ds[i]? with
    | none => rw [ed] at e; cases e
    | some d =>
      rw [ed] at e
      cases e
      obtain ⟨v, ev, hv⟩ := g.get ed
      have hs : SqT K H a xs := sqT_same (k.fr.trans Fz_le) h
      refine ⟨⟨xs, v, hs, ev⟩, fun x H' hy => ?_⟩
      obtain ⟨rfl, f⟩ := hy
      have := f xs hs
      rw [ev] at this
      cases this
      exact ⟨Same.refl _, .dat (hv.same k.fr)⟩
  · intro Ω H k
    rw [List.length_map]
    exact ⟨xs, sqT_same (k.fr.trans Fz_le) h, by rw [g.length]; exact Nat.le_refl _⟩
theorem walk_l {F : Hp} {a : Addr} {xs : List V} (h : F a = some (.lst xs)) (g : DqAll K F xs ds) : WalkA K F (Itl K a) (ds.map .dat) := by
  constructor
  · intro Ω H k i b e
    rw [List.getElem?_map] at e
    cases ed : ds[i]? with
    | none => rw [ed] at e; cases e
    | some d =>
      rw [ed] at e
      cases e
      obtain ⟨v, ev, hv⟩ := g.get ed
      have hs : SqL K H a xs := SqL.of ((k.fr.trans Fz_le) _ _ h)
      refine ⟨⟨xs, v, hs, ev⟩, fun x H' hy => ?_⟩
      obtain ⟨rfl, f⟩ := hy
      have := f xs hs
      rw [ev] at this
      cases this
      exact ⟨Same.refl _, .dat (hv.same k.fr)⟩
  · intro Ω H k
    rw [List.length_map]
    exact ⟨xs, SqL.of ((k.fr.trans Fz_le) _ _ h), by rw [g.length]; exact Nat.le_refl _⟩
def rngA (lo : Int) (n : Nat) : List Av := (List.range n).map fun k => .dat (.int (lo + (k : Nat)))
theorem walk_r {F : Hp} (lo : Int) (n : Nat) : WalkA K F (Itr lo n) (rngA lo n) := by
  constructor
  · intro Ω H k i b e
    unfold rngA at e
    rw [List.getElem?_map] at e
    by_cases hi : i < n
    · rw [List.getElem?_range hi] at e
      cases e
      exact ⟨hi, fun x H' hy => by
        obtain ⟨rfl, rfl⟩ := hy
        exact ⟨Same.refl _, .dat (.int _)⟩⟩
    · rw [List.getElem?_eq_none (by rw [List.length_range]; omega)] at e
      cases e
  · intro Ω H k
    unfold rngA
    rw [List.length_map, List.length_range]
    exact Nat.le_refl _
theorem i_tup {P : List Av → AH → Prop} (h : EW K te Γ Ω fun a Ω1 => ∃ ds, a = .dat (.tuple ds) ∧ P (ds.map .dat) Ω1) : IW K (iTup K te) Γ Ω P := fun F σ H R k q =>
  h F σ H _ k fun a v Ω1 H1 ⟨ds, e, hp⟩ k1 v1 => by
    subst e
    cases v1 with | dat v1 => cases v1 with | tup hs g =>
      exact ⟨_, rfl, ⟨_, sqT_same Fz_le hs⟩, q _ _ _ _ hp k1 (walk_t hs g)⟩
theorem i_list {P : List Av → AH → Prop} (h : EW K te Γ Ω fun a Ω1 => ∃ ds, a = .dat (.list ds) ∧ P (ds.map .dat) Ω1) : IW K (iList K te) Γ Ω P := fun F σ H R k q =>
  h F σ H _ k fun a v Ω1 H1 ⟨ds, e, hp⟩ k1 v1 => by
    subst e
    cases v1 with | dat v1 => cases v1 with | lst hs g =>
      exact ⟨_, rfl, ⟨_, SqL.of (Fz_le _ _ hs)⟩, q _ _ _ _ hp k1 (walk_l hs g)⟩
theorem i_rng1 {P : List Av → AH → Prop} (h : AW K tl Γ Ω fun as Ω1 => ∃ n : Int, as = [.dat (.int n)] ∧ (-(2 ^ 62) ≤ n ∧ n < 2 ^ 62) ∧ P (rngA 0 n.toNat) Ω1) : IW K (iRng1 tl) Γ Ω P := fun F σ H R k q =>
  h F σ H _ k fun as vs Ω1 H1 ⟨n, e, b, hp⟩ k1 v1 => by
    subst e
    cases v1 with | cons va v1 => cases v1; cases va with | dat va =>
      cases va
      exact ⟨n, rfl, b.1, b.2, q _ _ _ _ hp k1 (walk_r 0 n.toNat)⟩
theorem i_rng2 {P : List Av → AH → Prop} (h : AW K tl Γ Ω fun as Ω1 => ∃ lo n : Int, as = [.dat (.int lo), .dat (.int n)] ∧ (-(2 ^ 62) ≤ lo ∧ lo < 2 ^ 62 ∧ -(2 ^ 62) ≤ n ∧ n < 2 ^ 62) ∧ P (rngA lo (n - lo).toNat) Ω1) : IW K (iRng2 tl) Γ Ω P := fun F σ H R k q =>
  h F σ H _ k fun as vs Ω1 H1 ⟨lo, n, e, b, hp⟩ k1 v1 => by
    subst e
    cases v1 with | cons va v1 => cases v1 with | cons vb v1 => cases v1; cases va with | dat va => cases vb with | dat vb =>
      cases va
      cases vb
      exact ⟨lo, n, rfl, b, q _ _ _ _ hp k1 (walk_r lo _)⟩
/-- for: a word of the turn over the abstract state -/
theorem s_for {wi : TI} (M : List Av → Nat → List (Option Av) → AH → Prop) (h : IW K wi Γ Ω fun as Ω1 => M as 0 Γ Ω1 ∧
      (∀ i a Γ' Ω', as[i]? = some a → M as i Γ' Ω' → GW K g a Γ' Ω' fun Γ2 Ω2 => SW K t Γ2 Ω2 { E with nx := M as (i + 1), ct := M as (i + 1), bk := E.nx }) ∧ ∀ Γ' Ω', M as as.length Γ' Ω' → E.nx Γ' Ω') : SW K (tFor wi g t) Γ Ω E := fun F σ H D k e =>
  h F σ H _ k fun as Ω1 H1 J ⟨h0, hs, hd⟩ k1 wk => by
    have e1 := e.anchor k1.fr
    refine ⟨fun i m σ' H' => m = as.length - i ∧ i ≤ as.length ∧ ∃ Γ' Ω', M as i Γ' Ω' ∧ Ok K (Fz Ω1 H1) Ω' Γ' σ' H', ⟨_, rfl, Nat.zero_le _, Γ, Ω1, h0, k1.re⟩, ?_⟩
    rintro i m σ' H' ⟨rfl, hi, Γ', Ω', hm, k'⟩
    by_cases hlt : i < as.length
    · obtain ⟨hg, hy⟩ := wk.go Ω' H' k'.bare i _ (List.getElem?_eq_getElem hlt)
      refine .inr ⟨hg, fun σ2 H2 => ∃ Γ2 Ω2, M as (i + 1) Γ2 Ω2 ∧ Ok K (Fz Ω1 H1) Ω2 Γ2 σ2 H2, fun σ2 H2 ⟨Γ2, Ω2, hm2, k2⟩ => ⟨_, by omega, rfl, by omega, Γ2, Ω2, hm2, k2⟩, fun x H2 hyx => ?_⟩
      obtain ⟨s2, v2⟩ := hy x H2 hyx
      exact hs i _ Γ' Ω' (List.getElem?_eq_getElem hlt) hm (Fz Ω1 H1) σ' H2 x _ (k'.same s2) v2 fun Γ3 σ3 Ω3 H3 h3 k3 =>
        h3 (Fz Ω1 H1) σ3 H3 _ k3 ⟨fun Γ4 σ4 Ω4 H4 h4 k4 => ⟨Γ4, Ω4, h4, k4⟩, e1.rt, e1.nx, fun Γ4 σ4 Ω4 H4 h4 k4 => ⟨Γ4, Ω4, h4, k4⟩⟩
    · have ei : i = as.length := by omega
      subst ei
      exact .inl ⟨wk.stop Ω' H' k'.bare, e1.nx _ _ _ _ (hd Γ' Ω' hm) k'⟩
/-- while -/
theorem s_while (M : Nat → List (Option Av) → AH → Prop) (m0 : Nat) (h0 : M m0 Γ Ω)
    (hs : ∀ m Γ' Ω', M m Γ' Ω' → TW K tt Γ' Ω' fun b Ω1 => (b = true → SW K t Γ' Ω1 { E with nx := fun Γ2 Ω2 => ∃ m', m' < m ∧ M m' Γ2 Ω2, ct := fun Γ2 Ω2 => ∃ m', m' < m ∧ M m' Γ2 Ω2, bk := E.nx }) ∧ (b = false → E.nx Γ' Ω1)) : SW K (tWhile tt t) Γ Ω E := fun F σ H D k e => by
  refine ⟨fun m σ' H' => ∃ Γ' Ω', M m Γ' Ω' ∧ Ok K F Ω' Γ' σ' H', ⟨m0, Γ, Ω, h0, k⟩, ?_⟩
  rintro m σ' H' ⟨Γ', Ω', hm, k'⟩
  refine hs m Γ' Ω' hm F σ' H' _ k' fun b Ω1 H1 hb k1 => ?_
  cases b with
  | true =>
    show ∃ N : L2.St → Hp → Prop, (∀ σ' H', N σ' H' → ∃ m', m' < m ∧ ∃ Γ' Ω', M m' Γ' Ω' ∧ Ok K F Ω' Γ' σ' H') ∧ t { D with nx := N, ct := N, bk := D.nx } σ' H1
    exact ⟨fun σ2 H2 => ∃ Γ2 Ω2, (∃ m', m' < m ∧ M m' Γ2 Ω2) ∧ Ok K F Ω2 Γ2 σ2 H2, fun σ2 H2 ⟨Γ2, Ω2, ⟨m', lt, h2⟩, k2⟩ => ⟨m', lt, Γ2, Ω2, h2, k2⟩,
      hb.1 rfl F σ' H1 _ k1 ⟨fun Γ2 σ2 Ω2 H2 h2 k2 => ⟨Γ2, Ω2, h2, k2⟩, e.rt, e.nx, fun Γ2 σ2 Ω2 H2 h2 k2 => ⟨Γ2, Ω2, h2, k2⟩⟩⟩
  | false => exact e.nx _ _ _ _ (hb.2 rfl) k1
/-! ### comprehensions -/
/-- a target that stores into these slots alone -/
def GN (g : TG) (js : List Nat) : Prop := ∀ (v : V) (σ : L2.St) (H : Hp) (Q Q' : L2.St → Hp → Prop), (∀ σ' H', σ'.length = σ.length → (∀ i, i ∉ js → σ'[i]? = σ[i]?) → Q σ' H' → Q' σ' H') → g v σ H Q → g v σ H Q'
def GNs (g : TGs) (js : List Nat) : Prop := ∀ (vs : List V) (σ : L2.St) (H : Hp) (Q Q' : L2.St → Hp → Prop), (∀ σ' H', σ'.length = σ.length → (∀ i, i ∉ js → σ'[i]? = σ[i]?) → Q σ' H' → Q' σ' H') → g vs σ H Q → g vs σ H Q'
theorem gn_name {js : List Nat} (h : i ∈ js) : GN (gName i) js := fun v σ H Q Q' f q => f _ _ (List.length_set ..) (fun j hj => List.getElem?_set_ne (fun e => hj (by rw [← e]; exact h))) q
theorem gns_nil {js : List Nat} : GNs gNil js := fun vs σ H Q Q' f ⟨e, q⟩ => ⟨e, f _ _ rfl (fun _ _ => rfl) q⟩
theorem gns_cons {js : List Nat} (h1 : GN g js) (h2 : GNs gs js) : GNs (gCons g gs) js := fun vs σ H Q Q' f ⟨v, r, e, q⟩ => ⟨v, r, e, h1 v σ H _ _ (fun σ1 H1 l1 a1 q1 => h2 r σ1 H1 Q Q' (fun σ2 H2 l2 a2 q2 => f σ2 H2 (l2.trans l1) (fun i hi => (a2 i hi).trans (a1 i hi)) q2) q1) q⟩
theorem gn_tup {n : Nat} {js : List Nat} (h : GNs gs js) : GN (gTup K n gs) js := fun v σ H Q Q' f ⟨a, xs, e, hs, l, q⟩ => ⟨a, xs, e, hs, l, h xs σ H Q Q' f q⟩
theorem wipe_get {σ : L2.St} {i : Nat} : ∀ {vs : List Nat}, (L2.wipe σ vs)[i]? = if i ∈ vs ∧ i < σ.length then some none else σ[i]?
  | [] => by simp [L2.wipe]
  | v :: vs => by
    unfold L2.wipe
    by_cases e : v = i
    · subst e
      by_cases hl : v < σ.length
      · rw [List.getElem?_set_self (by rw [wipe_length]; exact hl), if_pos ⟨List.mem_cons_self, hl⟩]
      · rw [List.getElem?_eq_none (by rw [List.length_set, wipe_length]; omega), if_neg (fun h => hl h.2), List.getElem?_eq_none (by omega)]
    · rw [List.getElem?_set_ne e, wipe_get]
      have e' : ¬ i = v := fun q => e q.symm
      simp only [List.mem_cons, e', false_or]
theorem wipe_agree {σ σ2 : L2.St} {vs : List Nat} (l : σ2.length = (L2.wipe σ vs).length) (h : ∀ i, i ∉ vs → σ2[i]? = (L2.wipe σ vs)[i]?) : L2.wipe σ2 vs = L2.wipe σ vs := by
  rw [wipe_length] at l
  apply List.ext_getElem?
  intro i
  rw [wipe_get, wipe_get]
  by_cases hi : i ∈ vs
  · by_cases hl : i < σ.length
    · rw [if_pos ⟨hi, by omega⟩, if_pos ⟨hi, hl⟩]
    · rw [if_neg (fun z => hl (by omega)), if_neg (fun z => hl z.2), List.getElem?_eq_none (by omega), List.getElem?_eq_none (by omega)]
  · rw [if_neg (fun z => hi z.1), if_neg (fun z => hi z.1), h i hi, wipe_get, if_neg (fun z => hi z.1)]
/-- D: where the list grows; M: a word of the turn and what is made so far -/
theorem e_lc {wi : TI} {vs : List Nat} {P : Av → AH → Prop} (hg : GN g vs) (M : Addr → List Av → Nat → List Av → AH → Prop)
    (h : IW K wi Γ Ω fun as Ω1 => as.length ≤ 50000 ∧ ∀ D, Ω1 D = none → M D as 0 [] (put Ω1 D []) ∧
      (∀ i a acc Ω', as[i]? = some a → M D as i acc Ω' → Ω' D = some acc ∧ acc.length ≤ i ∧ GW K g a (wipeA Γ vs) Ω' fun Γ2 Ω2 => TW K tt Γ2 Ω2 fun b Ω3 =>
        (b = true → EW K te Γ2 Ω3 fun y Ω4 => Ω4 D = some acc ∧ M D as (i + 1) (acc ++ [y]) (put Ω4 D (acc ++ [y]))) ∧ (b = false → M D as (i + 1) acc Ω3)) ∧
      ∀ acc Ω', M D as as.length acc Ω' → P (.ptr D) Ω') : EW K (tLc wi g tt te vs) Γ Ω P := fun F σ H Q k q =>
  h F σ H _ k fun as Ω1 H1 J ⟨hz, hM⟩ k1 wk D nD => by
    obtain ⟨h0, hs, hd⟩ := hM D (k1.free nD)
    refine ⟨fun i m H' => m = as.length - i ∧ i ≤ as.length ∧ ∃ acc Ω', M D as i acc Ω' ∧ Ok K (Fz Ω1 H1) Ω' Γ σ H', ⟨_, rfl, Nat.zero_le _, [], put Ω1 D [], h0, k1.re.new nD .nil⟩, ?_⟩
    rintro i m H' ⟨rfl, hi, acc, Ω', hm, k'⟩
    by_cases hlt : i < as.length
    · obtain ⟨hgo, hy⟩ := wk.go Ω' H' k'.bare i _ (List.getElem?_eq_getElem hlt)
      refine .inr ⟨hgo, fun H2 => ∃ acc Ω2, M D as (i + 1) acc Ω2 ∧ Ok K (Fz Ω1 H1) Ω2 Γ σ H2, fun H2 ⟨acc2, Ω2, hm2, k2⟩ => ⟨_, by omega, rfl, by omega, acc2, Ω2, hm2, k2⟩, fun x H2 hyx => ?_⟩
      obtain ⟨s2, v2⟩ := hy x H2 hyx
      obtain ⟨eD, la, hb⟩ := hs i _ acc Ω' (List.getElem?_eq_getElem hlt) hm
      have k2 := k'.same s2
      refine hg x (L2.wipe σ vs) H2 _ _ (fun σ3 H3 l3 a3 q3 => ⟨wipe_agree l3 a3, q3⟩) ?_
      refine hb (Fz Ω' H2) (L2.wipe σ vs) H2 x _ (k2.re.wipe vs) v2 fun Γ3 σ3 Ω3 H3 h3 k3 => ?_
      refine h3 (Fz Ω3 H3) σ3 H3 _ k3.re fun b Ω4 H4 h4 k4 => ?_
      have k4' : Ok K (Fz Ω1 H1) Ω4 Γ σ H4 := k2.back ((k4.anchor k3.fr).bare)
      cases b with
      | true =>
        refine h4.1 rfl (Fz Ω4 H4) σ3 H4 _ k4.re fun y v Ω5 H5 ⟨e5, h5⟩ k5 v5 => ?_
        have k5' : Ok K (Fz Ω1 H1) Ω5 Γ σ H5 := k4'.back k5.bare
        obtain ⟨xs, hx, g5⟩ := k5.st D acc e5
        have l5 := g5.length
        exact ⟨xs, hx, sz_lt (by omega), _, _, h5, k5'.put e5 (g5.app (.cons v5 .nil))⟩
      | false => exact ⟨acc, Ω4, h4.2 rfl, k4'⟩
    · have ei : i = as.length := by omega
      subst ei
      exact .inl ⟨wk.stop Ω' H' k'.bare, q _ _ _ _ (hd acc Ω' hm) (k'.anchor k1.fr) (.ptr D)⟩
/-- the same, nothing changed by a turn: what is made of each item, and which items are taken -/
theorem e_lcF {α : Type} {wi : TI} {vs : List Nat} {P : Av → AH → Prop} (xs : List α) (enc : α → Av) (p : α → Bool) (out : α → PyData) (hg : GN g vs) (hz : xs.length ≤ 50000)
    (h : IW K wi Γ Ω fun as Ω1 => as = xs.map enc ∧ (∀ x Ω', x ∈ xs → (∀ q bs, Ω1 q = some bs → Ω' q = some bs) → GW K g (enc x) (wipeA Γ vs) Ω' fun Γ2 Ω2 => Ω2 = Ω' ∧ TW K tt Γ2 Ω2 fun b Ω3 => Ω3 = Ω' ∧ b = p x ∧ (p x = true → EW K te Γ2 Ω3 fun y Ω4 => Ω4 = Ω' ∧ y = .dat (out x))) ∧
      P (.dat (.list ((xs.filter p).map out))) Ω1) : EW K (tLc wi g tt te vs) Γ Ω P := by
  refine EW.frz ?_
  refine e_lc hg (fun D as i acc Ω' => ∃ Ω1 : AH, Ω1 D = none ∧ as = xs.map enc ∧ acc = (((xs.take i).filter p).map out).map .dat ∧ Ω' = put Ω1 D acc ∧ (∀ x Ω', x ∈ xs → (∀ q bs, Ω1 q = some bs → Ω' q = some bs) → GW K g (enc x) (wipeA Γ vs) Ω' fun Γ2 Ω2 => Ω2 = Ω' ∧ TW K tt Γ2 Ω2 fun b Ω3 => Ω3 = Ω' ∧ b = p x ∧ (p x = true → EW K te Γ2 Ω3 fun y Ω4 => Ω4 = Ω' ∧ y = .dat (out x))) ∧
      P (.dat (.list ((xs.filter p).map out))) Ω1) fun F σ H R k q => h F σ H R k fun as Ω1 H1 J ⟨e, hb, hp⟩ k1 wk => q as Ω1 H1 J ⟨by rw [e, List.length_map]; exact hz, fun D nD => ⟨⟨Ω1, nD, e, by simp, rfl, hb, hp⟩, fun i a acc Ω' ea hm => ?_, fun acc Ω' hm => ?_⟩⟩ k1 wk
  · obtain ⟨Ω0, n0, e0, rfl, rfl, hb0, hp0⟩ := hm
    subst e0
    rw [List.getElem?_map] at ea
    cases ex : xs[i]? with
    | none => rw [ex] at ea; cases ea
    | some x =>
      rw [ex] at ea
      cases ea
      have mx : x ∈ xs := List.mem_of_getElem? ex
      have tk : (xs.take (i + 1)).filter p = (xs.take i).filter p ++ (if p x = true then [x] else []) := by
        rw [List.take_add_one, ex, List.filter_append]
        show _ ++ (List.filter p [x]) = _
        rw [List.filter_cons, List.filter_nil]
      refine ⟨put_same, ?_, ?_⟩
      · rw [List.length_map, List.length_map]
        exact Nat.le_trans (List.length_filter_le ..) (by rw [List.length_take]; omega)
      refine fun F' σ' H' v Q' k' v' q' => hb0 x _ mx (fun q bs hq => by
        rw [put_ne (ne_of_Ω hq n0)]
        exact hq) F' σ' H' v Q' k' v' fun Γ2 σ2 Ω2 H2 ⟨e2, h2⟩ k2 => q' Γ2 σ2 Ω2 H2 ?_ k2
      subst e2
      refine fun F' σ' H' Q' k' q' => h2 F' σ' H' Q' k' fun b Ω3 H3 ⟨e3, eb, h3⟩ k3 => q' b Ω3 H3 ⟨fun hb => ?_, fun hb => ?_⟩ k3
      · subst e3
        refine (h3 (eb.symm.trans hb)).mono fun y Ω4 ⟨e4, ey⟩ => ?_
        subst e4 ey
        refine ⟨put_same, Ω0, n0, rfl, ?_, by rw [put_put], hb0, hp0⟩
        rw [tk, if_pos (eb.symm.trans hb), List.map_append, List.map_append]
        rfl
      · subst e3
        refine ⟨Ω0, n0, rfl, ?_, rfl, hb0, hp0⟩
        rw [tk, if_neg (by rw [← eb, hb]; decide), List.append_nil]
  · obtain ⟨Ω0, n0, e0, rfl, rfl, hb0, hp0⟩ := hm
    refine ⟨D, _, rfl, put_same, ?_⟩
    rw [del_put n0, e0, List.length_map, List.take_length]
    exact hp0
theorem e_lcM {α : Type} {wi : TI} {vs : List Nat} {P : Av → AH → Prop} (xs : List α) (enc : α → Av) (out : α → PyData) (hg : GN g vs) (hz : xs.length ≤ 50000)
    (h : IW K wi Γ Ω fun as Ω1 => as = xs.map enc ∧ (∀ x Ω', x ∈ xs → (∀ q bs, Ω1 q = some bs → Ω' q = some bs) → GW K g (enc x) (wipeA Γ vs) Ω' fun Γ2 Ω2 => Ω2 = Ω' ∧ EW K te Γ2 Ω2 fun y Ω4 => Ω4 = Ω' ∧ y = .dat (out x)) ∧
      P (.dat (.list (xs.map out))) Ω1) : EW K (tLc wi g tYes te vs) Γ Ω P :=
  e_lcF xs enc (fun _ => true) out hg hz fun F σ H R k q => h F σ H R k fun as Ω1 H1 J ⟨e, hb, hp⟩ k1 wk => q as Ω1 H1 J ⟨e, fun x Ω' mx hq F' σ' H' v Q' k' v' q' => hb x Ω' mx hq F' σ' H' v Q' k' v' fun Γ2 σ2 Ω2 H2 ⟨e2, h2⟩ k2 => q' Γ2 σ2 Ω2 H2 ⟨e2, t_yes ⟨e2, rfl, fun _ => h2⟩⟩ k2, by
    rw [List.filter_eq_self.mpr (fun _ _ => rfl)]
    exact hp⟩ k1 wk
/-! ### calls of defs -/
abbrev ASp := List Av → AH → (Av → AH → Prop) → Prop
def spA (K : PySem.W.Frag) (sp : ASp) : Sp := fun vs H Q _ => ∃ (F : Hp) (Ω : AH) (as : List Av) (P : Av → AH → Prop), Ok K F Ω [] [] H ∧ VAll K (Fz Ω H) as vs ∧ sp as Ω P ∧ ∀ a v Ω' H', P a Ω' → Ok K F Ω' [] [] H' → VOk K (Fz Ω' H') a v → Q v H'
theorem e_call {sp : ASp} {X : XK} {P : Av → AH → Prop} (h : AW K tl Γ Ω fun as Ω1 => sp as Ω1 P) : EW K (tCall (spA K sp) [] X tl) Γ Ω P := fun F σ H Q k q =>
  h F σ H _ k fun as vs Ω1 H1 h1 k1 v1 => by
    show spA K sp (vs ++ []) H1 Q X
    rw [List.append_nil]
    exact ⟨Fz Ω1 H1, Ω1, as, P, k1.bare.re, v1, h1, fun a v Ω' H' hp k' hv => q a v Ω' H' hp (k1.back k') hv⟩
theorem e_callD {sp : ASp} {X : XK} {P : Av → AH → Prop} {dvs : List V} {das : List Av} (hd : ∀ F, VAll K F das dvs) (h : AW K tl Γ Ω fun as Ω1 => sp (as ++ das) Ω1 P) : EW K (tCall (spA K sp) dvs X tl) Γ Ω P := fun F σ H Q k q =>
  h F σ H _ k fun as vs Ω1 H1 h1 k1 v1 => ⟨Fz Ω1 H1, Ω1, as ++ das, P, k1.bare.re, v1.app (hd _), h1, fun a v Ω' H' hp k' hv => q a v Ω' H' hp (k1.back k') hv⟩
theorem e_callN {sp : ASp} {X : XK} {P : Av → AH → Prop} {n m : Nat} {gV : List V → List V → List V} {tk : TA} (gA : List Av → List Av → List Av) (hg : ∀ F as bs vs us, VAll K F as vs → VAll K F bs us → VAll K F (gA as bs) (gV vs us))
    (h : AW K tl Γ Ω fun as Ω1 => AW K tk Γ Ω1 fun bs Ω2 => as.length = n ∧ bs.length = m ∧ sp (gA as bs) Ω2 P) : EW K (tCallN n m (spA K sp) gV X tl tk) Γ Ω P := fun F σ H Q k q =>
  h F σ H _ k fun as vs Ω1 H1 h1 k1 v1 => h1 (Fz Ω1 H1) σ H1 _ k1.re fun bs us Ω2 H2 ⟨l1, l2, h2⟩ k2 v2 => ⟨v1.length.trans l1, v2.length.trans l2, Fz Ω2 H2, Ω2, gA as bs, P, k2.bare.re, hg _ _ _ _ _ (v1.same k2.fr) v2, h2, fun a v Ω' H' hp k' hv => q a v Ω' H' hp ((k2.anchor k1.fr).back k') hv⟩
/-- keywords in another order -/
def kwV (π : List Nat) (zs : List V) : List V := π.map fun i => zs.getD i .non
def kwA (π : List Nat) (zs : List Av) : List Av := π.map fun i => zs.getD i (.dat .none)
def kwU (π : List Nat) (zs : List Value) : List Value := π.map fun i => zs.getD i .none
theorem kw_va {F : Hp} {bs : List Av} {us : List V} (h : VAll K F bs us) : ∀ π : List Nat, VAll K F (kwA π bs) (kwV π us)
  | [] => .nil
  | i :: r => .cons (by
      show VOk K F (bs.getD i (.dat .none)) (us.getD i .non)
      rw [List.getD_eq_getElem?_getD, List.getD_eq_getElem?_getD]
      cases e : bs[i]? with
      | none =>
        have : us[i]? = none := by
          rw [List.getElem?_eq_none_iff] at e ⊢
          rw [h.length]
          exact e
        rw [this]
        exact .dat .non
      | some b =>
        obtain ⟨v, ev, hv⟩ := h.get e
        rw [ev]
        exact hv) (kw_va h r)
theorem kw_vals {zs : List V} {ws : List Value} (h : Vals zs ws) : ∀ π : List Nat, Vals (kwV π zs) (kwU π ws)
  | [] => .nil
  | i :: r => .cons (by
      show L2.RelV (zs.getD i .non) (ws.getD i .none)
      rw [List.getD_eq_getElem?_getD, List.getD_eq_getElem?_getD]
      cases e : zs[i]? with
      | none =>
        have : ws[i]? = none := by
          rw [List.getElem?_eq_none_iff] at e ⊢
          rw [← h.length]
          exact e
        rw [this]
        rfl
      | some b =>
        obtain ⟨v, ev, hv⟩ := h.get e
        rw [ev]
        exact hv) (kw_vals h r)
end
section
variable {P : Program} {w : World} {K : PySem.W.Frag} {mg : Str → Option Value} {base : Heap}
theorem spA_len {sp : ASp} {n : Nat} (len : ∀ as Ω P, sp as Ω P → as.length = n) : ∀ vs H Q E, spA K sp vs H Q E → vs.length = n := fun vs H Q E ⟨F, Ω, as, P, k, va, h, _⟩ => va.length.trans (len as Ω P h)
/-- a def of the text keeps its promise -/
theorem fnA_ok {x qual : Str} {st : Stmt} {f : Addr} {fd : FuncData} {N ps : List Str} {k : Nat} {sp : ASp} (F : L2.Fun K x qual st f fd) (S : FnScope N ps (defScope st)) (len : ∀ as Ω P, sp as Ω P → as.length = ps.length)
    (hbody : ∀ (cdv : Value) (A : Around) (outer : List Env) (s : Shared) (H : Hp) (E : XK), Room k (A.deeper (envOfC qual (defScope st) s.heap.objs.size f cdv)) →
      ∃ t, PSs (cxOf CX0 P w K mg base N qual (defScope st) f cdv A outer s H E).nox (defBody st) t ∧ ∀ as Ω P, sp as Ω P → SW K t (as.map some ++ List.replicate (N.length - as.length) none) Ω { nx := fun _ Ω' => P (.dat .none) Ω', rt := P }) :
    FnOk P w K mg base CX0 (k + 1) f fd ps (spA K sp) := by
  refine F.ok S (spA_len len) fun cdv A outer s H vs Q E hr h => ?_
  obtain ⟨t, ht, hs⟩ := hbody cdv A outer s H E hr
  obtain ⟨F0, Ω, as, P, k0, va, h, hq⟩ := h
  refine ⟨t, ht, hs as Ω P h F0 (L2.start N vs) H _ ⟨k0.fr, k0.st, ?_⟩ ⟨fun Γ' σ' Ω' H' hp k' => hq _ _ _ _ hp k'.bare (.dat .non), fun a v Ω' H' hp k' hv => hq _ _ _ _ hp k' hv, fun _ _ _ _ z => z.elim, fun _ _ _ _ z => z.elim⟩⟩
  unfold L2.start
  rw [va.length]
  exact Slots.start (N := N) va _
end
end Dat

set_option Elab.async false
set_option linter.all false
set_option maxRecDepth 100000
set_option maxHeartbeats 1000000
/-! a lambda with parameters, handed to a def that calls it -/
namespace Clo
open PySem PySem.Spec PyProof.Rows L2 LamX NdefX
section
variable {cl : List (Str × Addr)} {fr : List Str} {ws : List (Option V)} {Z : Cx} {pins : List (Addr × Obj)} {σ : L2.St} {H : Hp} {s : Shared}
theorem cells_later (C : CellsAt cl fr ws Z.s_0.heap Z.H_0) (hx : Z.ex = []) (I : Inv Z pins σ H s) : CellsAt cl fr ws s.heap H := by
  have nx : ∀ b : Addr, b ∉ Z.ex := fun b q => by
    rw [hx] at q
    cases q
  have cell : ∀ y c, cl.lookup y = some c → ∀ v, Z.s_0.heap.IsCell c v → s.heap.IsCell c v := fun y c e v w => by
    obtain ⟨o, ho, hd⟩ := w
    obtain ⟨sl, q⟩ := I.base.any ho (C.all y c e).1 (nx c)
    exact ⟨_, q, hd⟩
  constructor
  · exact C.len
  · intro y c e
    obtain ⟨n, v, z⟩ := C.all y c e
    obtain ⟨o, ho, hd⟩ := id z
    exact ⟨I.base.free c o ho n (nx c), v, cell y c e v z⟩
  · exact C.inj
  · intro i y e
    obtain ⟨c, hc, hv⟩ := C.has i y e
    exact ⟨c, hc, fun v q => by
      obtain ⟨u, r, z⟩ := hv v q
      exact ⟨u, r, cell y c hc _ z⟩⟩
end
/-- the object at f is the lambda F with this body -/
def LamO (f : Addr) (F : NF) (body : Expr) : HO := .ext fun h => ∃ pm ctv, h.get? f = some (PySem.W.kla_obj F.name F.qual F.params body F.scope F.cl pm F.c ctv)
theorem lamO_at {P : Program} {w : World} {H : Hp} {h : Heap} {f : Addr} {F : NF} {body : Expr} (hok : HOk P w H h) (e : H f = some (LamO f F body)) : ∃ pm ctv, h.get? f = some (PySem.W.kla_obj F.name F.qual F.params body F.scope F.cl pm F.c ctv) := (hok f _ e).1
/-- what it promises; ws: what its captured cells hold -/
structure LOk (P : Program) (w : World) (K : PySem.W.Frag) (mg : Str → Option Value) (base : Heap) (CX : CXT) (k : Nat) (f : Addr) (F : NF) (body : Expr) (ps fr : List Str) (sp : List (Option V) → Sp) : Prop where
  len : ∀ ws vs H Q E, sp ws vs H Q E → vs.length = ps.length
  run : ∀ (A : Around) (outer : List Env) (s : Shared) (H : Hp) (us : List Value) (vs : List V) (ws : List (Option V)) (Q : VK) (E : XK), Room k A → Env0 P w K mg base A outer s H → H f = some (LamO f F body) →
    H F.c = some (CodeO F.c F.qual) → CellsAt F.cl fr ws s.heap H → Vals vs us → sp ws vs H Q E → codeAny (model P w) A (.call (.ref f) ⟨us, []⟩) (CR CX outer P w H s Q E) s
section
variable {CX : CXT} {P : Program} {w : World} {K : PySem.W.Frag} {mg : Str → Option Value} {base : Heap} {N ps fr : List Str} {F : NF} {f : Addr} {k : Nat} {sp : List (Option V) → Sp} {body : Expr}
theorem lok_of (S : NScope N ps fr F.scope) (hb : ∀ (pm ctv : Value) (us : List Value), us.length = ps.length → bindArgs (PySem.W.kla_fn F.name F.qual F.params body F.scope F.cl pm (.ref F.c) ctv) ⟨us, []⟩ = pure (ps.zip us))
    (len : ∀ ws vs H Q E, sp ws vs H Q E → vs.length = ps.length)
    (hbody : ∀ (A : Around) (outer : List Env) (s : Shared) (H : Hp) (vs : List V) (ws : List (Option V)) (Q : VK) (E : XK), Room k (A.deeper (envF F f s.heap.objs.size)) → ws.length = fr.length → sp ws vs H Q E →
      ∃ t, PE (ncx CX P w K mg base N F f A outer s H E) body t ∧ t (startF N vs ws) H Q) : LOk P w K mg base CX (k + 1) f F body ps fr sp := by
  constructor
  · exact len
  intro A outer s H us vs ws Q E hr e0 hf hc C r hsp
  have hl := len _ _ _ _ _ hsp
  have lim : s.heap.NoLimit := e0.mod.nolimit.keeps fun b o e => (e0.bs b o e).1
  obtain ⟨pm, ctv, ho⟩ := lamO_at e0.hok hf
  obtain ⟨⟨oc, vc, t, hoc, hdc, hvc⟩, _, _⟩ := e0.hok F.c _ hc
  refine PySem.W.kla_callFunE hr.depth ho rfl S.co S.gen rfl ⟨F.c, oc, vc, t, rfl, hoc, hdc, hvc⟩ ?_
  rw [hb pm ctv us (by rw [← r.length]; exact hl)]
  refine wpAny_pure (wpAny_newFunctionEnv S.nocell (fun y hy => S.par y.1 (List.of_mem_zip hy).1) (fun h₁ hns hsb => ⟨lim.fresh _ hsb, ?_⟩) S.kind)
  show codeAny _ _ (.expr body (envF F f s.heap.objs.size)) _ _
  obtain ⟨t2, ht, hq⟩ := hbody A outer s H vs ws Q E (hr.deeper _) C.len hsp
  have J := inv_startN (CX := CX) (N := N) (w := w) (E := E) (F := F) (f := f) (tk := s.toks + (ps.zip us).length) S hr.hd e0 hl r C hns (fun b o e => hsb.extBut b o (Nat.ne_of_lt (Heap.lt_size e)) (Heap.get?_push_of_some _ e))
  refine PySem.W.kla_codeExpr (wpAny_mono (ht.run [] _ (startF N vs ws) H Q J hq) (fun v s' z => ?_) fun e s' z => z)
  obtain ⟨u, H', J', rv, qv⟩ := z
  exact ⟨u, H', J'.os, J'.bare, J'.base, J'.hok, rv, qv⟩
end
/-- a def that is given a closure: its promise, the captured cells known at the call -/
structure FnC (P : Program) (w : World) (K : PySem.W.Frag) (mg : Str → Option Value) (base : Heap) (CX : CXT) (k : Nat) (g : Addr) (gd : FuncData) (ps : List Str) (cl : List (Str × Addr)) (fr : List Str) (sp : List (Option V) → Sp) : Prop where
  run : ∀ (A : Around) (outer : List Env) (s : Shared) (H : Hp) (args : Args) (us : List Value) (vs : List V) (ws : List (Option V)) (Q : VK) (E : XK), Room k A → Env0 P w K mg base A outer s H → BindsTo s gd args (ps.zip us) → Vals vs us →
    CellsAt cl fr ws s.heap H → sp ws vs H Q E → vs.length = ps.length → codeAny (model P w) A (.call (.ref g) args) (CR CX outer P w H s Q E) s
section
variable {CX : CXT} {P : Program} {w : World} {K : PySem.W.Frag} {mg : Str → Option Value} {base : Heap} {k : Nat} {g : Addr} {gd : FuncData} {x qual : Str} {st : Stmt} {N ps : List Str} {cl : List (Str × Addr)} {fr : List Str} {sp : List (Option V) → Sp}
theorem fnc_of (F : L2.Fun K x qual st g gd) (S : FnScope N ps (defScope st))
    (hbody : ∀ (cdv : Value) (A : Around) (outer : List Env) (s : Shared) (H : Hp) (vs : List V) (ws : List (Option V)) (Q : VK) (E : XK), Room k (A.deeper (envOfC qual (defScope st) s.heap.objs.size g cdv)) → CellsAt cl fr ws s.heap H → sp ws vs H Q E →
      ∃ t, PSs (cxOf CX0 P w K mg base N qual (defScope st) g cdv A outer s H E).nox (defBody st) t ∧ t { nx := fun _ H' => Q .non H', rt := Q } (start N vs) H) : FnC P w K mg base CX0 (k + 1) g gd ps cl fr sp := by
  obtain ⟨oc, od, kV, doc, pm, an, cdv, ct, osl, rfl, lk, hcd⟩ := F.ex
  constructor
  intro A outer s H args us vs ws Q E hr e0 hb r C hsp hl
  refine run_ofS lk hcd S hr e0 hb r hl fun hr' => ?_
  obtain ⟨t, ht, hq⟩ := hbody cdv A outer s H vs ws Q E hr' C hsp
  exact ⟨t, ht.nox, hq⟩
end
/-! ### the calls -/
def tHeld (i : Nat) (f : Addr) (F : NF) (body : Expr) (ws : List (Option V)) (sp : List (Option V) → Sp) (E : XK) (t : TA) : TE := fun σ H Q => σ[i]? = some (some (.ref f)) ∧ H f = some (LamO f F body) ∧
  t σ H fun vs H1 => H1 f = some (LamO f F body) ∧ H1 F.c = some (CodeO F.c F.qual) ∧ sp ws vs H1 Q E
theorem lam_fnAt {X : Cx} {pins : List (Addr × Obj)} {σ : L2.St} {H : Hp} {s : Shared} {f : Addr} {F : NF} {body : Expr} (I : Inv X pins σ H s) (e : H f = some (LamO f F body)) : PySem.W.FnAt f s.heap := by
  obtain ⟨pm, ctv, ho⟩ := lamO_at I.hok e
  exact ⟨_, _, _, _, ho⟩
section
variable {X : Cx} {CX : CXT} {i j k : Nat} {x : Str} {f : Addr} {F : NF} {body : Expr} {ps fr : List Str} {ws : List (Option V)} {sp : List (Option V) → Sp} {E : XK} {t : TA} {e : Expr} {es : List Expr} {p pos : Pos}
theorem pe_held (L : LOk X.prog X.w X.K X.mg X.base CX k f F body ps fr sp) (C : CellsAt F.cl fr ws X.s_0.heap X.H_0) (hex : X.ex = []) (hr : Room j X.A) (hk : k ≤ j) (hx : Passes CX X E) (hN : X.N[i]? = some x) (hv : Vis X.env.scope x)
    (ha : PA X (e :: es) t) (hd : (x == ("__debug__" : Str)) = false := by decide) (hcd : (x == ("__classdict__" : Str)) = false := by decide)
    (he : starEach (e :: es) X.env = (false, eval e X.env) :: starEach es X.env := by rfl) (hpl : (backTo pos (starEach es X.env)).any (·.1) = false := by rfl) :
    PE X (.Call (.Name x p) (e :: es) [] pos) (tHeld i f F body ws sp E t) := by
  constructor
  intro pins s σ H Q I h
  obtain ⟨hs, hf, ht⟩ := h
  refine wpAny_Call_Name_kw (thn ((pe_var (pos := p) hN hv hd hcd).run pins s σ H (fun v H1 => v = .ref f ∧ H1 = H) I ⟨.ref f, hs, rfl, rfl⟩) fun u s1 z => ?_)
  obtain ⟨v, H1, I1, r1, rfl, eH⟩ := z
  rw [eH] at I1
  cases (show u = Value.ref f from r1)
  refine PySem.W.callWith_F (first := []) (lam_fnAt I1 hf) (thn (ha.run pos pins s1 σ H _ I1 ht) fun us s2 z => ?_) he hpl
  obtain ⟨vs, H2, I2, r, h1, h2, q⟩ := z
  refine ⟨lam_fnAt I2 h1, ?_⟩
  refine wpAny_call (codeAny_mono (L.run X.A X.stack s2 H2 us vs ws Q E (hr.mono hk) I2.env0 h1 h2 (cells_later C hex I2) r q) fun r s' hq => ?_)
  cases r with
  | error e => exact hx pins σ H2 s2 e s' I2 hq
  | ok fl =>
    cases fl with
    | ret u => exact I2.after hq
    | next => exact hq.elim
    | brk => exact hq.elim
    | cont => exact hq.elim
/-- g(e, ..): a def of the text that is given a function which the running frame has made; js: where the captured names stand -/
def tCallC (js : List Nat) (sp : Addr → Addr → List (Option V) → Sp) (E : XK) (t : TA) : TE := fun σ H Q => t σ H fun vs H1 => ∃ f c', sp f c' (js.map (slotAt σ)) vs H1 Q E
theorem pe_callC {cl : List (Str × Addr)} {js : List Nat} {g : Addr} {gd : FuncData} {sp : Addr → Addr → List (Option V) → Sp} (G : ∀ f c', FnC X.prog X.w X.K X.mg X.base CX k g gd ps cl fr (sp f c')) (len : ∀ f c' ws vs H Q E, sp f c' ws vs H Q E → vs.length = ps.length) (cp : X.Ok → Caps X cl fr js) (hr : Room j X.A) (hk : k ≤ j)
    (hg : Gl X x) (hm : X.mg x = some (.ref g)) (hkp : PySem.W.keepIn X.K (.ref g) = true) (hb : Binds X.K gd ps []) (hx : Passes CX X E) (ha : PA X (e :: es) t) (hdb : (x == ("__debug__" : Str)) = false := by decide)
    (he : starEach (e :: es) X.env = (false, eval e X.env) :: starEach es X.env := by rfl) (hpl : (backTo pos (starEach es X.env)).any (·.1) = false := by rfl) :
    PE X (.Call (.Name x p) (e :: es) [] pos) (tCallC js sp E t) := by
  constructor
  intro pins s σ H Q I h
  refine wpAny_Call_Name_kw (ld_glob I hg hm ?_ hdb)
  refine PySem.W.callWith_K (h₀ := X.base) I.ok.mod.kin hkp (thn (ha.run pos pins s σ H _ I h) fun us s2 z => ?_) he hpl
  obtain ⟨vs, H2, I2, r, f0, c0, q⟩ := z
  refine ⟨I2.kIn, ?_⟩
  have hl := len _ _ _ _ _ _ _ q
  have bt : BindsTo s2 gd ⟨us, []⟩ (ps.zip us) := by
    have b := hb s2 us I2.kIn (by rw [List.append_nil, ← r.length]; exact hl)
    rw [List.append_nil] at b
    exact b
  refine wpAny_call (codeAny_mono ((G f0 c0).run X.A X.stack s2 H2 ⟨us, []⟩ us vs _ Q E (hr.mono hk) I2.env0 bt r (cells_of I2 (cp I2.ok)) q hl) fun r s' hq => ?_)
  cases r with
  | error e => exact hx pins σ H2 s2 e s' I2 hq
  | ok fl =>
    cases fl with
    | ret u => exact I2.after hq
    | next => exact hq.elim
    | brk => exact hq.elim
    | cont => exact hq.elim
end
/-! ### the lambda itself -/
def tLamE (T : List (Addr × Str)) (q : Str) (mk : Addr → NF) (body : Expr) : TE := fun _ H Q => Tabs T H ∧ ∀ (f c' : Addr) (H1 : Hp), ExtN H H1 → (∀ b, H1 b = none → H b = none) → Tabs T H1 → H f = none → H1 f = some (LamO f (mk c') body) → H1 c' = some (CodeO c' q) → Q (.ref f) H1
section
variable {X : Cx} {pins : List (Addr × Obj)} {σ : L2.St} {H : Hp} {s : Shared}
theorem lam_laid {F : NF} {body : Expr} {pm ctv : Value} {t' : Nat} (I : Inv X pins σ H s) :
    Inv X pins σ (upd H s.heap.objs.size (LamO s.heap.objs.size F body)) { s with heap := s.heap.push (PySem.W.kla_obj F.name F.qual F.params body F.scope F.cl pm F.c ctv), toks := t' } := by
  have e : (s.heap.push (PySem.W.kla_obj F.name F.qual F.params body F.scope F.cl pm F.c ctv)).get? s.heap.objs.size = some (PySem.W.kla_obj F.name F.qual F.params body F.scope F.cl pm F.c ctv) := Heap.get?_push_size _ rfl
  exact I.laid (a := s.heap.objs.size) (o := LamO s.heap.objs.size F body) (fun b u q => Heap.get?_push_of_some _ q) (Nat.le_refl _) ⟨⟨pm, ctv, e⟩, ⟨_, e⟩, fun h1 h2 ⟨a, b, z⟩ st => ⟨a, b, st _ z⟩⟩
theorem pe_lambda {T : List (Addr × Str)} {c P : Addr} {params : Arguments} {body : Expr} {scope : Scope} {pos : Pos} (TB : TabB X.base X.mg c P) (hcode : X.env.code = .ref c) (hm : (P, X.env.qual ++ "<lambda>") ∈ T)
    (hu : ∀ p ∈ T, p.1 = P → p.2 = X.env.qual ++ "<lambda>") (hdef : defaultsOf params X.env = ([], [])) (hfree : X.Ok → ∀ y ∈ scope.names, y.2 = .free → ∃ c, X.env.cells.lookup y.1 = some c) :
    PE X (.Lambda params body scope pos) (tLamE T (X.env.qual ++ "<lambda>") (fun c' => ⟨"<lambda>", X.env.qual ++ "<lambda>", params, [], scope, cloFrom X.env.cells scope.names [], c'⟩) body) := by
  constructor
  intro pins s σ H Q I hq
  obtain ⟨hT, h⟩ := hq
  obtain ⟨ps, hP, ht, ha⟩ := hT _ hm
  have bP : s.heap.BuiltinsAt X.mg P := TB.bm.keeps I.bk
  have hP' : s.heap.get? P = some { cls := .none, data := .fields ps } := I.hok P _ hP
  refine PySem.W.kla_eval hdef ?_
  rcases hc : codeAmong pos ps.toList with _ | cv
  · -- a new code object
    refine PySem.W.kla_makeFunction (mg := X.mg) (c := c) (P := P) (ps := ps) (closure_ok (hfree I.ok)) I.ok.glob (I.mod.glob.keeps I.bk) hcode (TB.code.keeps I.bk) hP' ht hc TB.gP bP fun c' ctv h' tk hx hge hlt hrec htb => ?_
    obtain ⟨c2, oc, vs, t, e2, hoc, hd, hv⟩ := hrec
    cases e2
    have nC : H c' = none := I.hok.fresh hge
    have nPC : P ≠ c' := ne_of_none hP nC
    have I1 : Inv X pins σ (upd (upd H P (.tbl (ps ++ #[rawInt pos.line, rawInt pos.col, .ref c']))) c' (CodeO c' (X.env.qual ++ "<lambda>"))) { s with heap := h', toks := tk } :=
      inv_table I hP (fun b o hb e => hx b o hb e) htb hge ⟨oc, vs, t, hoc, hd, hv⟩
    have nF : upd (upd H P (.tbl (ps ++ #[rawInt pos.line, rawInt pos.col, .ref c']))) c' (CodeO c' (X.env.qual ++ "<lambda>")) h'.objs.size = none := I1.hok.fresh (Nat.le_refl _)
    have I2 := lam_laid (F := ⟨"<lambda>", X.env.qual ++ "<lambda>", params, [], scope, cloFrom X.env.cells scope.names [], c'⟩) (body := body) (pm := (X.mg "__name__").getD .none) (ctv := ctv) (t' := tk) I1
    have nF0 : H h'.objs.size = none := upd_none (upd_none nF)
    have old : ∀ b o, H b = some o → (∀ q, o ≠ .tbl q) → upd (upd (upd H P (.tbl (ps ++ #[rawInt pos.line, rawInt pos.col, .ref c']))) c' (CodeO c' (X.env.qual ++ "<lambda>"))) h'.objs.size (LamO h'.objs.size ⟨"<lambda>", X.env.qual ++ "<lambda>", params, [], scope, cloFrom X.env.cells scope.names [], c'⟩ body) b = some o := fun b o e n => by
      rw [upd_ne (ne_of_none e nF0), upd_ne (ne_of_none e nC), upd_ne (fun z => n ps (Option.some.inj (e.symm.trans (by rw [z]; exact hP))))]
      exact e
    have atC : upd (upd (upd H P (.tbl (ps ++ #[rawInt pos.line, rawInt pos.col, .ref c']))) c' (CodeO c' (X.env.qual ++ "<lambda>"))) h'.objs.size (LamO h'.objs.size ⟨"<lambda>", X.env.qual ++ "<lambda>", params, [], scope, cloFrom X.env.cells scope.names [], c'⟩ body) c' = some (CodeO c' (X.env.qual ++ "<lambda>")) := by
      rw [upd_ne (ne_of_none upd_same nF), upd_same]
    refine ⟨.ref h'.objs.size, _, I2, rfl, h h'.objs.size c' _ old (fun b e => upd_none (upd_none (upd_none e))) (fun p hp => ?_) nF0 upd_same atC⟩
    by_cases hb : p.1 = P
    · rw [hu p hp hb, hb]
      have eL : (ps ++ #[rawInt pos.line, rawInt pos.col, .ref c']).toList = ps.toList ++ [rawInt pos.line, rawInt pos.col, .ref c'] := by simp
      refine ⟨ps ++ #[rawInt pos.line, rawInt pos.col, .ref c'], ?_, by rw [eL]; exact PySem.TriplesOk_snoc _ _ _ _ ht, fun p' cv q => ?_⟩
      · have atP : upd (upd H P (.tbl (ps ++ #[rawInt pos.line, rawInt pos.col, .ref c']))) c' (CodeO c' (X.env.qual ++ "<lambda>")) P = some (.tbl (ps ++ #[rawInt pos.line, rawInt pos.col, .ref c'])) := by rw [upd_ne nPC, upd_same]
        exact (upd_ne (ne_of_none atP nF)).trans atP
      · rw [eL] at q
        rcases among_app _ ht q with q | q
        · obtain ⟨c0, e1, e3⟩ := ha p' cv q
          exact ⟨c0, e1, old _ _ e3 codeO_ne⟩
        · exact ⟨c', q, atC⟩
    · obtain ⟨ps', a1, a2, a3⟩ := hT p hp
      refine ⟨ps', ?_, a2, fun p' cv q => ?_⟩
      · rw [upd_ne (ne_of_none a1 nF0), upd_ne (ne_of_none a1 nC), upd_ne hb]
        exact a1
      · obtain ⟨c0, e1, e3⟩ := a3 p' cv q
        exact ⟨c0, e1, old _ _ e3 codeO_ne⟩
  · -- the code object stands in the table
    obtain ⟨c', e, hco⟩ := ha pos cv hc
    subst e
    refine PySem.W.kla_makeFunctionHit (mg := X.mg) (c := c) (P := P) (ps := ps) (closure_ok (hfree I.ok)) I.ok.glob (I.mod.glob.keeps I.bk) hcode (TB.code.keeps I.bk) hP' ht hc bP fun ctv h' tk hx hsz => ?_
    have I1 : Inv X pins σ H { s with heap := h', toks := tk } := I.kept hx
    have nF : H h'.objs.size = none := I1.hok.fresh (Nat.le_refl _)
    have I2 := lam_laid (F := ⟨"<lambda>", X.env.qual ++ "<lambda>", params, [], scope, cloFrom X.env.cells scope.names [], c'⟩) (body := body) (pm := (X.mg "__name__").getD .none) (ctv := ctv) (t' := tk) I1
    have sm : ∀ b o, H b = some o → upd H h'.objs.size (LamO h'.objs.size ⟨"<lambda>", X.env.qual ++ "<lambda>", params, [], scope, cloFrom X.env.cells scope.names [], c'⟩ body) b = some o := fun b o q => by
      rw [upd_ne (ne_of_none q nF)]
      exact q
    exact ⟨.ref h'.objs.size, _, I2, rfl, h h'.objs.size c' _ (ExtN.of sm) (fun b q => upd_none q) (hT.ext sm) nF upd_same (sm _ _ hco)⟩
end
end Clo

set_option Elab.async false
set_option linter.all false
set_option maxRecDepth 100000
set_option maxHeartbeats 1000000
/-! defs that show data as texts: what stands around them shows nothing; the end of a law that does so -/
namespace Grd
open PySem PySem.Spec PyProof.Rows L2 LamX NdefX Clo
section
variable {X : Cx}
theorem call_repr (hg : X.A.guards = some []) (hu : X.A.units + 100 < cLine) : CallR X (.builtin "repr") (fun xs H Q => ∃ (a : Addr) (d : PyData), xs = [.ref a] ∧ Dp X.K H (.ref a) d ∧ d.showable = true ∧ d.hasDict = false ∧ d.depth ≤ 64 ∧ d.shown.length ≤ sizeLine ∧ Q (.str d.shown) H) := by
  intro pins s σ H xs us Q I r h
  obtain ⟨a, d, rfl, hd, h1, h2, h3, h4, q⟩ := h
  obtain ⟨u, rfl, rx⟩ := vals1 r
  cases (show u = Value.ref a from rx)
  obtain ⟨as, rd⟩ := Dp.reads I d (.ref a) (.ref a) hd rfl
  exact repr_of_reads' rd h1 (PyData.noDict_hsm h2) hg (by omega) (fun _ _ e => e) (fun h' u tk hk => ⟨.str d.shown, H, I.kept (t' := tk) hk, ⟨u, rfl⟩, q⟩) h4
end
structure FnG (P : Program) (w : World) (K : PySem.W.Frag) (mg : Str → Option Value) (base : Heap) (CX : CXT) (k : Nat) (f : Addr) (fd : FuncData) (ps : List Str) (sp : Sp) : Prop where
  len : ∀ vs H Q E, sp vs H Q E → vs.length = ps.length
  run : ∀ (A : Around) (outer : List Env) (s : Shared) (H : Hp) (args : Args) (us : List Value) (vs : List V) (Q : VK) (E : XK), Room k A → A.guards = some [] → Env0 P w K mg base A outer s H → BindsTo s fd args (ps.zip us) → Vals vs us → sp vs H Q E →
    codeAny (model P w) A (.call (.ref f) args) (CR CX outer P w H s Q E) s
section
variable {P : Program} {w : World} {K : PySem.W.Frag} {mg : Str → Option Value} {base : Heap} {k : Nat} {g : Addr} {gd : FuncData} {x qual : Str} {st : Stmt} {N ps : List Str} {sp : Sp}
theorem fng_of (F : L2.Fun K x qual st g gd) (S : FnScope N ps (defScope st)) (len : ∀ vs H Q E, sp vs H Q E → vs.length = ps.length)
    (hbody : ∀ (cdv : Value) (A : Around) (outer : List Env) (s : Shared) (H : Hp) (vs : List V) (Q : VK) (E : XK), Room k (A.deeper (envOfC qual (defScope st) s.heap.objs.size g cdv)) → (A.deeper (envOfC qual (defScope st) s.heap.objs.size g cdv)).guards = some [] → sp vs H Q E →
      ∃ t, PSs (cxOf CX0 P w K mg base N qual (defScope st) g cdv A outer s H E).nox (defBody st) t ∧ t { nx := fun _ H' => Q .non H', rt := Q } (start N vs) H) : FnG P w K mg base CX0 (k + 1) g gd ps sp := by
  obtain ⟨oc, od, kV, doc, pm, an, cdv, ct, osl, rfl, lk, hcd⟩ := F.ex
  constructor
  · exact len
  intro A outer s H args us vs Q E hr hg e0 hb r hsp
  refine run_ofS lk hcd S hr e0 hb r (len _ _ _ _ hsp) fun hr' => ?_
  obtain ⟨t, ht, hq⟩ := hbody cdv A outer s H vs Q E hr' hg hsp
  exact ⟨t, ht.nox, hq⟩
end
section
variable {X : Cx} {CX : CXT} {j k : Nat} {x : Str} {ps : List Str} {sp : Sp} {E : XK} {t : TA} {e : Expr} {es : List Expr} {p pos : Pos} {g : Addr} {gd : FuncData}
theorem pe_callG (G : FnG X.prog X.w X.K X.mg X.base CX k g gd ps sp) (hr : Room j X.A) (hk : k ≤ j) (hgd : X.A.guards = some [])
    (hg : Gl X x) (hm : X.mg x = some (.ref g)) (hkp : PySem.W.keepIn X.K (.ref g) = true) (hb : Binds X.K gd ps []) (hx : Passes CX X E) (ha : PA X (e :: es) t) (hdb : (x == ("__debug__" : Str)) = false := by decide)
    (he : starEach (e :: es) X.env = (false, eval e X.env) :: starEach es X.env := by rfl) (hpl : (backTo pos (starEach es X.env)).any (·.1) = false := by rfl) :
    PE X (.Call (.Name x p) (e :: es) [] pos) (tCall sp [] E t) := by
  constructor
  intro pins s σ H Q I h
  refine wpAny_Call_Name_kw (ld_glob I hg hm ?_ hdb)
  refine PySem.W.callWith_K (h₀ := X.base) I.ok.mod.kin hkp (thn (ha.run pos pins s σ H _ I h) fun us s2 z => ?_) he hpl
  obtain ⟨vs, H2, I2, r, q⟩ := z
  have q : sp vs H2 Q E := by
    have q' : sp (vs ++ []) H2 Q E := q
    rw [List.append_nil] at q'
    exact q'
  refine ⟨I2.kIn, ?_⟩
  have hl := G.len _ _ _ _ q
  have bt : BindsTo s2 gd ⟨us, []⟩ (ps.zip us) := by
    have b := hb s2 us I2.kIn (by rw [List.append_nil, ← r.length]; exact hl)
    rw [List.append_nil] at b
    exact b
  refine wpAny_call (codeAny_mono (G.run X.A X.stack s2 H2 ⟨us, []⟩ us vs Q E (hr.mono hk) hgd I2.env0 bt r q) fun r s' hq => ?_)
  cases r with
  | error e => exact hx pins σ H2 s2 e s' I2 hq
  | ok fl =>
    cases fl with
    | ret u => exact I2.after hq
    | next => exact hq.elim
    | brk => exact hq.elim
    | cont => exact hq.elim
end
end Grd

set_option Elab.async false
set_option linter.all false
set_option maxRecDepth 100000
set_option maxHeartbeats 1000000
namespace Dat
open PySem PySem.Spec PyProof.Rows L2
/-! ### rules of my own for the derivations -/
section
variable {X : Cx} {CX : CXT} {k : Nat} {f : Addr} {fd : FuncData} {ps ks : List Str} {sp : Sp} {E : XK} {x : Str} {p pos : Pos} {kws : List Keyword} {tk : TA} {g : List Value → List Value → List Value} {gV : List V → List V → List V}
/-- a call with keywords alone -/
theorem pe_callN0 (F : FnOk X.prog X.w X.K X.mg X.base CX k f fd ps sp) (hr : Room k X.A) (hg : Gl X x) (hm : X.mg x = some (.ref f)) (hk : PySem.W.keepIn X.K (.ref f) = true) (hb : KBn X.K fd ps 0 ks g gV) (hx : Passes CX X E)
    (hkw : PK X kws tk) (hall : (backToKw pos (keywordEach kws X.env)).all (·.1.isSome) = true := by rfl) (hks : (backToKw pos (keywordEach kws X.env)).filterMap (·.1) = ks := by rfl)
    (hdb : (x == ("__debug__" : Str)) = false := by decide)
    (hpl : ((backTo pos (starEach [] X.env)).any (·.1) || (backToKw pos (keywordEach kws X.env)).any (·.1.isNone)) = false := by rfl) :
    PE X (.Call (.Name x p) [] kws pos) (tCallN 0 ks.length sp gV E tNil tk) := by
  refine ⟨fun pins s σ H Q I h => ?_⟩
  refine wpAny_Call_Name_kw (ld_glob I hg hm ?_ hdb)
  refine PySem.W.callWith_KW0 (h₀ := X.base) I.ok.mod.kin hk hall ?_ hpl
  refine thn (hkw.run pos pins s σ H _ I h) fun ws s2 ⟨zs, H2, I2, rz, l1, l2, q2⟩ => ⟨I2.kIn, ?_⟩
  rw [hks]
  exact run_fnN F hr hb hx I2 .nil rz rfl l2 q2
end
theorem pe_tupleK {X : Cx} {K : PySem.W.Frag} {a : Expr} {ta : TE} {p pos : Pos} (hK : X.K = K) (hg : Gl X "tuple") (hm : X.mg "tuple" = none) (ha : PE X a ta) (na : starEach [a] X.env = (false, eval a X.env) :: starEach [] X.env := by rfl) :
    PE X (.Call (.Name "tuple" p) [a] [] pos) (tThen ta (kTup K)) := by
  subst hK
  exact pe_tupleOf hg hm ha na
/-- a statement that is never reached -/
theorem ps_dead {X : Cx} {st : Stmt} : PS X st (fun _ _ _ => False) := ⟨fun _ _ _ _ _ _ h => h.elim⟩
structure DefAt (K : PySem.W.Frag) (mg : Str → Option Value) (x : Str) (st : Stmt) (ps : List Str) (ds : List Value) (f : Addr) (fd : FuncData) : Prop where
  F : L2.Fun K x x st f fd
  g : mg x = some (.ref f)
  b : Binds K fd ps ds
theorem hu64 {A : Around} {k : Nat} (hr : Room k A) : A.units + 64 < cLine := by
  have := hr.un
  omega
theorem hu100 {A : Around} {k : Nat} (hr : Room k A) : A.units + 100 < cLine := by
  have := hr.un
  omega
theorem bt_len : bootBuiltins "len" = some (.builtin "len") := by decide +kernel
theorem bt_isinstance : bootBuiltins "isinstance" = some (.builtin "isinstance") := by decide +kernel
theorem bt_abs : bootBuiltins "abs" = some (.builtin "abs") := by decide +kernel
theorem bt_all : bootBuiltins "all" = some (.builtin "all") := by decide +kernel
theorem bt_any : bootBuiltins "any" = some (.builtin "any") := by decide +kernel
theorem bt_sum : bootBuiltins "sum" = some (.builtin "sum") := by decide +kernel
theorem bt_max : bootBuiltins "max" = some (.builtin "max") := by decide +kernel
theorem bt_min : bootBuiltins "min" = some (.builtin "min") := by decide +kernel
theorem bt_sorted : bootBuiltins "sorted" = some (.builtin "sorted") := by decide +kernel
theorem bt_repr : bootBuiltins "repr" = some (.builtin "repr") := by decide +kernel
theorem bt_int : bootBuiltins "int" = some (.type "int") := by decide +kernel
theorem bt_bool : bootBuiltins "bool" = some (.type "bool") := by decide +kernel
theorem bt_tuple : bootBuiltins "tuple" = some (.type "tuple") := by decide +kernel
theorem bt_list : bootBuiltins "list" = some (.type "list") := by decide +kernel
theorem bt_str : bootBuiltins "str" = some (.type "str") := by decide +kernel
theorem bt_set : bootBuiltins "set" = some (.type "set") := by decide +kernel
theorem bt_range : bootBuiltins "range" = some (.type "range") := by decide +kernel
theorem bt_enumerate : bootBuiltins "enumerate" = some (.type "enumerate") := by decide +kernel
theorem bt_zip : bootBuiltins "zip" = some (.type "zip") := by decide +kernel
/-! ### defs that show data as texts -/
section
variable {P : Program} {w : World} {K : PySem.W.Frag} {mg : Str → Option Value} {base : Heap}
theorem fngA_ok {x qual : Str} {st : Stmt} {f : Addr} {fd : FuncData} {N ps : List Str} {k : Nat} {sp : ASp} (F : L2.Fun K x qual st f fd) (S : FnScope N ps (defScope st)) (len : ∀ as Ω P, sp as Ω P → as.length = ps.length)
    (hbody : ∀ (cdv : Value) (A : Around) (outer : List Env) (s : Shared) (H : Hp) (E : XK), Room k (A.deeper (envOfC qual (defScope st) s.heap.objs.size f cdv)) → (A.deeper (envOfC qual (defScope st) s.heap.objs.size f cdv)).guards = some [] →
      ∃ t, PSs (cxOf CX0 P w K mg base N qual (defScope st) f cdv A outer s H E).nox (defBody st) t ∧ ∀ as Ω P, sp as Ω P → SW K t (as.map some ++ List.replicate (N.length - as.length) none) Ω { nx := fun _ Ω' => P (.dat .none) Ω', rt := P }) :
    Grd.FnG P w K mg base CX0 (k + 1) f fd ps (spA K sp) := by
  refine Grd.fng_of F S (spA_len len) fun cdv A outer s H vs Q E hr hg h => ?_
  obtain ⟨t, ht, hs⟩ := hbody cdv A outer s H E hr hg
  obtain ⟨F0, Ω, as, P, k0, va, h, hq⟩ := h
  refine ⟨t, ht, hs as Ω P h F0 (L2.start N vs) H _ ⟨k0.fr, k0.st, ?_⟩ ⟨fun Γ' σ' Ω' H' hp k' => hq _ _ _ _ hp k'.bare (.dat .non), fun a v Ω' H' hp k' hv => hq _ _ _ _ hp k' hv, fun _ _ _ _ z => z.elim, fun _ _ _ _ z => z.elim⟩⟩
  unfold L2.start
  rw [va.length]
  exact Slots.start (N := N) va _
end
end Dat

set_option Elab.async false
set_option linter.all false
set_option maxRecDepth 100000
set_option maxHeartbeats 1000000
namespace PySem.SeqAt
open AutoSeq1 (wpAny_loadPart')
open MeetsSeq
theorem str_eq_declines_dict (b : Str) (u : Tok) (l : Addr) (es : Array DictEntry) (n : Nat) (dd : Option Addr) (sl : Array (Option Value)) :
    Meets (Builtin.«str.__eq__» ⟨[.str b u, .ref l], []⟩) (fun _ R s => s.heap.get? l = some { cls := .type "dict", dict := dd, data := .dict es n, slots := sl } ∧ R (.ok (.ret .notImplemented)) s) :=
  .of_wp fun prog w A R s h => by obtain ⟨hp, g, d, tk, os⟩ := s; obtain ⟨hl, h⟩ := h; wp_walk using wpAny_loadPart' hl, wpAny_load hl; exact ⟨_, rfl, h⟩
theorem dict_eq_declines_str (l : Addr) (es : Array DictEntry) (n : Nat) (dd : Option Addr) (sl : Array (Option Value)) (b : Str) (u : Tok) :
    Meets (Builtin.«dict.__eq__» ⟨[.ref l, .str b u], []⟩) (fun _ R s => s.heap.get? l = some { cls := .type "dict", dict := dd, data := .dict es n, slots := sl } ∧ R (.ok (.ret .notImplemented)) s) :=
  .of_wp fun prog w A R s h => by obtain ⟨hp, g, d, tk, os⟩ := s; obtain ⟨hl, h⟩ := h; have f1 := F.sub_str_dict; wp_walk using wpAny_loadPart' hl, wpAny_load hl; exact ⟨_, rfl, h⟩
section
variable {A : Around} {s : Shared}
theorem EqAt.str_dict {l : Addr} {o : Obj} {es : Array DictEntry} {n : Nat} (b : Str) (u : Tok) (h0 : s.heap.get? l = some o) (hc : o.cls = .type "dict") (hd : o.data = .dict es n) (hu : A.units < cLine) : EqAt A s (.str b u) (.ref l) false := fun prog w E Q h => by
  obtain ⟨cls, dd, data, sl⟩ := o
  simp only at hc hd
  subst hc hd
  unfold eqBool
  refine wpAny_holding ?_
  refine wpAny_ite_split (fun hab => absurd (eq_of_beq hab) nofun) (fun _ => ?_)
  refine wpAny_bind (rc_eq_decline_or (k := false) (typeIs_str s b u) ⟨_, h0, rfl⟩ (by decide) F.sub_dict_str F.slot_str_eq F.slot_dict_eq_refl
    (fun _ hq => call_meets F.slot_str_eq (typeIs_str s b u) F.entry_str_eq (F.args_str_eq_2 _ _) (str_eq_declines_dict b u l es n dd sl) ⟨h0, hq⟩)
    (fun _ hq => call_meets F.slot_dict_eq_refl ⟨_, h0, rfl⟩ F.entry_dict_eq (F.args_dict_eq_2 _ _) (dict_eq_declines_str l es n dd sl b u) ⟨h0, hq⟩)
    (fun _ hq => wpAny_of_eq (rfl : isSame (.str b u) (.ref l) = pure false) hq) (.inr hu) (wpAny_truthy_bool h))
end
end PySem.SeqAt
namespace Dat
open PySem PySem.Spec PyProof.Rows L2
def isStr (w : Str) : PyData → Bool
  | .str x => w == x
  | _ => false
section
variable {X : Cx} {pins : List (Addr × Obj)} {σ : L2.St} {H : Hp} {s : Shared}
theorem dict_at (I : Inv X pins σ H s) {a : Addr} (h : H a = some (.dK [])) : (a == sysModules) = false ∧ ∃ o n, s.heap.get? a = some o ∧ o.cls = .type "dict" ∧ o.data = .dict #[] n := by
  obtain ⟨_, h1, vs, kv, o, es, ep, e1, e2, e3, e4⟩ := dk_of I.hok h
  have hv : vs = [] := by
    cases kv
    rfl
  subst hv
  refine ⟨h1, o, ep, e1, e2.1, ?_⟩
  rw [e3]
  have : es.size = 0 := by
    have := e4.2.1.length
    simpa using this
  rw [Array.eq_empty_of_size_eq_zero this]
theorem str_at (I : Inv X pins σ H s) {A : Around} (hu : A.units < cLine) {v : V} {u : Value} {d : PyData} (h : Dq X.K H v d) (r : RelV v u) (w : Str) (t : Tok) : SeqAt.EqAt A s (.str w t) u (isStr w d) := by
  cases h with
  | non => cases r; exact SeqAt.EqAt.str_none w t
  | bl b => cases r; exact SeqAt.EqAt.str_bool w t b
  | int i => obtain ⟨t', rfl⟩ := r; exact SeqAt.EqAt.str_int w t i t'
  | str x => obtain ⟨t', rfl⟩ := r; exact SeqAt.EqAt.str_str w t x t'
  | lst h _ =>
    cases r
    obtain ⟨its, rv, p, _⟩ := I.list (SqL.of h)
    exact SeqAt.EqAt.str_list w t p.isList hu
  | tup h _ =>
    cases r
    obtain ⟨its, rv, p, _⟩ := I.tuple h
    exact SeqAt.EqAt.str_tuple w t p hu
  | dct h =>
    cases r
    obtain ⟨_, o, n, e1, e2, e3⟩ := dict_at I h
    exact SeqAt.EqAt.str_dict w t e1 e2 e3 hu
def isStrU (d : PyData) (u : Value) : Bool := match u with
  | .str w _ => isStr w d
  | _ => false
theorem any_str {d : PyData} : ∀ {ws : List Str} {us : List Value}, Vals (ws.map V.str) us → us.any (isStrU d) = ws.any fun w => isStr w d
  | [], _, h => by cases h; rfl
  | w :: r, _, h => by
    rw [List.map_cons] at h
    cases h with | cons r1 r2 =>
      obtain ⟨t, rfl⟩ := r1
      rw [List.any_cons, List.any_cons, any_str r2]
      rfl
theorem mem_str (I : Inv X pins σ H s) {A : Around} (hu : A.units < cLine) {v : V} {u : Value} {d : PyData} (h : Dq X.K H v d) (r : RelV v u) : ∀ {ws : List Str} {us : List Value}, Vals (ws.map V.str) us → ∀ y ∈ us, SeqAt.EqAt A s y u (isStrU d y)
  | [], _, g, y, hy => by cases g; cases hy
  | w :: ws, _, g, y, hy => by
    rw [List.map_cons] at g
    cases g with | cons r1 r2 =>
      obtain ⟨t, rfl⟩ := r1
      rcases List.mem_cons.mp hy with rfl | hy
      · exact str_at I hu h r w t
      · exact mem_str I hu h r r2 y hy
/-- any datum in a tuple of texts -/
def rInStr (K : PySem.W.Frag) : R2 := fun x y H Q => ∃ (p : Addr) (ws : List Str) (d : PyData), y = .ref p ∧ SqT K H p (ws.map V.str) ∧ Dq K H x d ∧ Q (.bl (ws.any fun w => isStr w d)) H
theorem op_inStr {X : Cx} (hu : X.A.units + 64 < cLine) : OpR X (compareOp .In) (rInStr X.K) := by
  intro pins s σ H x y v u Q I rx ry h
  obtain ⟨p, ws, d, rfl, hq, hd, q⟩ := h
  cases ry
  obtain ⟨its, r, tp, hz⟩ := I.tuple hq
  refine SeqAt.in_tupleAt (isStrU d) (show s.heap.IsTuple p its.toArray from tp) (fun z hz' => mem_str I (by show X.A.units + 1 < cLine; omega) hd rx r z (by simpa using hz')) ⟨.bl _, H, I, rfl, ?_⟩
  rw [show its.toArray.any (isStrU d) = its.any (isStrU d) by simp, any_str r]
  exact q
theorem r_inStr {K : PySem.W.Frag} {Ω : AH} {P : Av → AH → Prop} {d : PyData} {ws : List Str} (h : P (.dat (.bool (ws.any fun w => isStr w d))) Ω) : R2W K (rInStr K) (.dat d) (.dat (.tuple (ws.map PyData.str))) Ω P := fun F H x y Q k hx hy q => by
  cases hx with | dat hx => cases hy with | dat hy => cases hy with | tup hs g =>
    have e : ∀ {ws : List Str} {vs : List V}, DqAll K (Fz Ω H) vs (ws.map PyData.str) → vs = ws.map V.str := by
      intro ws
      induction ws with
      | nil => intro vs g; cases g; rfl
      | cons w r ih =>
        intro vs g
        rw [List.map_cons] at g
        cases g with | cons h g =>
          cases h
          rw [ih g, List.map_cons]
    rw [e g] at hs
    exact ⟨_, ws, d, rfl, sqT_same Fz_le hs, hx.same Fz_le, q _ _ _ _ h k (.dat (.bl _))⟩
/-! ### repr -/
mutual
def noList : PyData → Bool
  | .list _ => false
  | .tuple ds => noListAll ds
  | _ => true
def noListAll : List PyData → Bool
  | [] => true
  | d :: r => noList d && noListAll r
end
mutual
theorem Dq.reads (I : Inv X pins σ H s) : ∀ (d : PyData) (v : V) (u : Value), Dq X.K H v d → RelV v u → ∃ as, Reads s.heap u d as ∧ (noList d = true → sysModules ∉ as)
  | .none, _, _, h, r => by
    cases h
    cases r
    exact ⟨_, Reads.none, fun _ => nofun⟩
  | .bool b, _, _, h, r => by
    cases h
    cases r
    exact ⟨_, Reads.bool b, fun _ => nofun⟩
  | .int i, _, _, h, r => by
    cases h
    obtain ⟨t, rfl⟩ := r
    exact ⟨_, Reads.int i t, fun _ => nofun⟩
  | .str x, _, _, h, r => by
    cases h
    obtain ⟨t, rfl⟩ := r
    exact ⟨_, Reads.str x t, fun _ => nofun⟩
  | .list ds, _, _, h, r => by
    cases h with
    | lst hs ha =>
      cases r
      obtain ⟨its, rv, ⟨o, n, ho, hc, _, hd⟩, _⟩ := I.list (SqL.of hs)
      obtain ⟨as, hr, _⟩ := Dq.readsAll I ds _ its ha rv
      exact ⟨_, Reads.list ho hc hd hr, fun z => by simp [noList] at z⟩
  | .tuple ds, _, _, h, r => by
    cases h with
    | tup hs ha =>
      cases r
      obtain ⟨its, rv, ⟨o, ho, hc, n, hd⟩, _⟩ := I.tuple hs
      obtain ⟨as, hr, hn⟩ := Dq.readsAll I ds _ its ha rv
      exact ⟨_, Reads.tuple ho hc hd hr, fun z => hn (by simpa [noList] using z)⟩
  | .dict kvs, _, _, h, r => by
    cases h with
    | dct h =>
      cases r
      obtain ⟨h1, o, n, e1, e2, e3⟩ := dict_at I h
      refine ⟨_, Reads.dict (kvs := []) (as := []) (bs := []) e1 e2 e3 (by exact ReadsAll.nil) (by exact ReadsAll.nil), fun _ m => ?_⟩
      simp at m
      rw [m] at h1
      simp at h1
theorem Dq.readsAll (I : Inv X pins σ H s) : ∀ (ds : List PyData) (vs : List V) (us : List Value), DqAll X.K H vs ds → Vals vs us → ∃ as, ReadsAll s.heap us ds as ∧ (noListAll ds = true → sysModules ∉ as)
  | [], _, _, h, r => by
    cases h
    cases r
    exact ⟨_, ReadsAll.nil, fun _ => nofun⟩
  | d :: ds, _, _, h, r => by
    cases h with
    | cons h1 h2 =>
      cases r with
      | cons r1 r2 =>
        obtain ⟨as, q1, n1⟩ := Dq.reads I d _ _ h1 r1
        obtain ⟨bs, q2, n2⟩ := Dq.readsAll I ds _ _ h2 r2
        refine ⟨_, ReadsAll.cons q1 q2, fun z => ?_⟩
        rw [noListAll, Bool.and_eq_true] at z
        intro m
        rcases List.mem_append.mp m with m | m
        · exact n1 z.1 m
        · exact n2 z.2 m
end
end
def Shown (d : PyData) : Prop := d.showable = true ∧ (d.hasDict = true → noList d = true) ∧ d.depth ≤ 64 ∧ d.shown.length ≤ sizeLine
def rReprQ (K : PySem.W.Frag) : List V → Hp → VK → Prop := fun xs H Q => ∃ (v : V) (d : PyData), xs = [v] ∧ Dq K H v d ∧ Shown d ∧ Q (.str d.shown) H
theorem cl_repr {X : Cx} (hg : X.A.guards = some []) (hu : X.A.units + 100 < cLine) : CallR X (.builtin "repr") (rReprQ X.K) := by
  intro pins s σ H xs us Q I r h
  obtain ⟨v, d, rfl, hd, ⟨h1, h2, h3, h4⟩, q⟩ := h
  obtain ⟨u, rfl, rx⟩ := vals1 r
  have ref : ∀ a, v = .ref a → u = .ref a → wpAny (model X.prog X.w) X.A (call (.builtin "repr") [u]) (EP X pins σ Q) X.xe s := fun a ev eu => by
    subst ev eu
    obtain ⟨as, rd, hn⟩ := Dq.reads I d (.ref a) (.ref a) hd rfl
    exact repr_of_reads' rd h1 (fun z => hn (h2 z)) hg (by omega) (fun _ _ e => e) (fun h' u tk hk => ⟨.str d.shown, H, I.kept (t' := tk) hk, ⟨u, rfl⟩, q⟩) h4
  cases hd with
  | non =>
    cases rx
    exact PySem.P.repr_of_none ⟨.str "None", H, I.tok _, ⟨_, rfl⟩, by simpa [PyData.shown] using q⟩
  | bl b =>
    cases rx
    exact PySem.P.repr_of_bool ⟨.str (if b then "True" else "False"), H, I.tok _, ⟨_, rfl⟩, by simpa [PyData.shown] using q⟩
  | int i =>
    obtain ⟨t, rfl⟩ := rx
    exact PySem.P.repr_of_int (by simpa [PyData.showable] using h1) ⟨.str (toString i), H, I.tok _, ⟨_, rfl⟩, by simpa [PyData.shown] using q⟩
  | str x =>
    obtain ⟨t, rfl⟩ := rx
    exact PySem.P.repr_of_str ⟨.str (reprText x), H, I.tok _, ⟨_, rfl⟩, by simpa [PyData.shown] using q⟩ (by simpa [PyData.shown] using h4)
  | lst h g => exact ref _ rfl rx
  | tup h g => exact ref _ rfl rx
  | dct h => exact ref _ rfl rx
theorem c_repr {K : PySem.W.Frag} {Ω : AH} {P : Av → AH → Prop} {d : PyData} (s : Shown d) (h : P (.dat (.str d.shown)) Ω) : RCW K (rReprQ K) [.dat d] Ω P := fun F H xs Q k hx q => by
  cases hx with | cons hx g => cases g; cases hx with | dat hx =>
    exact ⟨_, d, rfl, hx.same Fz_le, s, q _ _ _ _ h k (.dat (.str _))⟩
/-! ### short words -/
inductive Dats : List Av → List PyData → Prop
  | nil : Dats [] []
  | cons {d : PyData} {as : List Av} {ds : List PyData} (h : Dats as ds) : Dats (.dat d :: as) (d :: ds)
theorem Dats.eq {as : List Av} {ds : List PyData} (h : Dats as ds) : as = ds.map .dat := by
  induction h with
  | nil => rfl
  | cons h ih => rw [ih, List.map_cons]
theorem dats_map {α : Type} {f : α → PyData} : ∀ {xs : List α}, Dats (xs.map fun x => .dat (f x)) (xs.map f)
  | [] => .nil
  | _ :: _ => .cons dats_map
section
variable {K : PySem.W.Frag} {Γ : List (Option Av)} {Ω : AH} {P : Av → AH → Prop} {te : TE} {tl : TA}
theorem e_tupD (h : AW K tl Γ Ω fun as Ω1 => ∃ ds, Dats as ds ∧ Nat.ble ds.length 100000 = true ∧ P (.dat (.tuple ds)) Ω1) : EW K (tTup tl) Γ Ω P :=
  e_tup fun F σ H Q k q => h F σ H Q k fun as vs Ω1 H1 ⟨ds, e, l, hp⟩ => q as vs Ω1 H1 ⟨ds, e.eq, Nat.le_of_ble_eq_true l, hp⟩
theorem e_lstD (h : AW K tl Γ Ω fun as Ω1 => ∃ ds, Dats as ds ∧ Nat.ble ds.length 100000 = true ∧ P (.dat (.list ds)) Ω1) : EW K (tLst tl) Γ Ω P :=
  e_lst fun F σ H Q k q => h F σ H Q k fun as vs Ω1 H1 ⟨ds, e, l, hp⟩ => q as vs Ω1 H1 ⟨ds, e.eq, Nat.le_of_ble_eq_true l, hp⟩
theorem c_allM {α : Type} {xs : List α} {p : α → Bool} (h : P (.dat (.bool (xs.all p))) Ω) : RCW K (rAll K) [.dat (.list (xs.map fun x => .bool (p x)))] Ω P := by
  have e : xs.map (fun x => PyData.bool (p x)) = (xs.map p).map PyData.bool := by
    rw [List.map_map]
    rfl
  rw [e]
  refine c_all ?_
  rw [List.all_map]
  exact h
theorem c_anyM {α : Type} {xs : List α} {p : α → Bool} (h : P (.dat (.bool (xs.any p))) Ω) : RCW K (rAny K) [.dat (.list (xs.map fun x => .bool (p x)))] Ω P := by
  have e : xs.map (fun x => PyData.bool (p x)) = (xs.map p).map PyData.bool := by
    rw [List.map_map]
    rfl
  rw [e]
  refine c_any ?_
  rw [List.any_map]
  exact h
theorem atI_nat' {α : Type} {xs : List α} {i : Nat} {a : α} (h : xs[i]? = some a) : atI xs (i : Int) = some a := atI_nat h
/-- a def of one datum, answered by a truth -/
abbrev spB (f : PyData → Bool) : ASp := fun as Ω P => ∃ d, as = [.dat d] ∧ P (.dat (.bool (f d))) Ω
end
end Dat

set_option Elab.async false
set_option linter.all false
set_option maxRecDepth 100000
set_option maxHeartbeats 1000000
namespace Dat
open PySem PySem.Spec PyProof.Rows L2
/-! ### the rules with the written part given outright -/
section
variable {X : Cx} {K : PySem.W.Frag}
theorem ixT (hK : X.K = K) : IxR X (rIxT K) := by subst hK; exact ix_tup
theorem ixL (hK : X.K = K) : IxR X (rIxL K) := by subst hK; exact ix_list
theorem slT (hK : X.K = K) : SlR X (rSlA K) := by subst hK; exact sl_tupA
theorem slL (hK : X.K = K) : SlR X (rSlL K) := by subst hK; exact sl_list
theorem catT (hK : X.K = K) : OpR X (binaryOp .Add) (rCatA K) := by subst hK; exact op_catA
theorem inQ (hK : X.K = K) : OpR X (compareOp .In) (rIn K false) := by subst hK; exact op_in_seq
theorem niQ (hK : X.K = K) : OpR X (compareOp .NotIn) (rIn K true) := by subst hK; exact op_notIn_seq
theorem inStrQ (hK : X.K = K) (hu : X.A.units + 64 < cLine) : OpR X (compareOp .In) (rInStr K) := by subst hK; exact op_inStr hu
theorem eqDQ (hK : X.K = K) (hu : X.A.units + 64 < cLine) : OpR X (compareOp .Eq) (rEqD K) := by subst hK; exact op_eqD hu
theorem neDQ (hK : X.K = K) (hu : X.A.units + 64 < cLine) : OpR X (compareOp .NotEq) (rNeD K) := by subst hK; exact op_neD hu
theorem isiQ (hK : X.K = K) : CallR X (.builtin "isinstance") (rIsi K) := by subst hK; exact call_isi
theorem lenQ (hK : X.K = K) : CallR X (.builtin "len") (rLenQ K) := by subst hK; exact cl_len
theorem listQ (hK : X.K = K) : CallR X (.type "list") (rListQ K) := by subst hK; exact cl_list
theorem allQ (hK : X.K = K) (hc : X.calm = true) : CallR X (.builtin "all") (rAll K) := by subst hK; exact cr_all hc
theorem anyQ (hK : X.K = K) (hc : X.calm = true) : CallR X (.builtin "any") (rAny K) := by subst hK; exact cr_any hc
theorem sumQ (hK : X.K = K) (hc : X.calm = true) : CallR X (.builtin "sum") (rSum K) := by subst hK; exact cr_sum hc
theorem maxQ (hK : X.K = K) (hc : X.calm = true) : CallR X (.builtin "max") (rMax K) := by subst hK; exact cr_max hc
theorem minQ (hK : X.K = K) (hc : X.calm = true) : CallR X (.builtin "min") (rMin K) := by subst hK; exact cr_min hc
theorem sortedQ (hK : X.K = K) : CallR X (.builtin "sorted") (rSorted K) := by subst hK; exact cr_sorted
theorem reprQ (hK : X.K = K) (hg : X.A.guards = some []) (hu : X.A.units + 100 < cLine) : CallR X (.builtin "repr") (rReprQ K) := by subst hK; exact cl_repr hg hu
theorem piT {tg l : Expr} {tl : TE} (hK : X.K = K) (hl : PE X l tl) : PI X tg l (iTup K tl) := by subst hK; exact pi_tup hl
theorem piL {tg l : Expr} {tl : TE} (hK : X.K = K) (hl : PE X l tl) : PI X tg l (iList K tl) := by subst hK; exact pi_list hl
theorem pgT {es : List Expr} {k : Nat} {t : TGs} {n : Nat} {pos : Pos} (hK : X.K = K) (hc : X.calm = true) (h : PGs X es t)
    (hn : (assignEach es X.env).length = n := by rfl) (hst : (assignEach es X.env).findIdx? (·.1) = none := by rfl) : PG X (.Tuple es k pos) (gTup K n t) := by subst hK; exact pg_tup hc h hn hst
theorem appQ {o e : Expr} {to : TE} {t : TA} {apos cpos : Pos} (hK : X.K = K) (ho : PE X o to) (ha : PA X [e] t)
    (hbase : attributeBase o "append" X.env (eval o X.env) = eval o X.env := by rfl)
    (hfew : ((backTo cpos (starEach [e] X.env)).all (fun x => !x.1) && (backToKw cpos (keywordEach [] X.env)).all (fun x => x.1.isSome)
      && decide ([e].length + ([] : List Keyword).length + (if ([] : List Keyword).isEmpty then 0 else 1) < 30)) = true := by rfl)
    (hline : (apos.endLine == cpos.line) = true := by rfl) (hs : starEach [e] X.env = (false, eval e X.env) :: starEach [] X.env := by rfl) (hplain : (backTo cpos (starEach [] X.env)).any (·.1) = false := by rfl) :
    PE X (.Call (.Attribute o "append" apos) [e] [] cpos) (tBM K "list" rAppend to t) := by
  subst hK
  exact pe_bm PySem.F.plainAttrs_list PySem.F.slot_list_append PySem.F.type_list_append mt_append ho ha hbase hfew hline hs hplain
theorem zipQ {e e2 : Expr} {ta : TA} {p pos tpos : Pos} {elts : List Expr} {kk : Nat} (hK : X.K = K) (hg : Gl X "zip") (hm : X.mg "zip" = none) (ha : PA X [e, e2] ta)
    (hs : starEach [e, e2] X.env = (false, eval e X.env) :: starEach [e2] X.env := by rfl) (hpl : (backTo pos (starEach [e2] X.env)).any (·.1) = false := by rfl) :
    PI X (.Tuple elts kk tpos) (.Call (.Name "zip" p) [e, e2] [] pos) (RZ.iZipA K ta) := by
  subst hK
  exact RZ.pi_zipA hg hm ha hs hpl
theorem enumQ {e : Expr} {ta : TA} {p pos tpos : Pos} {elts : List Expr} {kk : Nat} (hK : X.K = K) (hg : Gl X "enumerate") (hm : X.mg "enumerate" = none) (ha : PA X [e] ta) (hs : starEach [e] X.env = [(false, eval e X.env)] := by rfl) :
    PI X (.Tuple elts kk tpos) (.Call (.Name "enumerate" p) [e] [] pos) (iEnum K ta) := by
  subst hK
  exact pi_enum hg hm ha hs
end
/-! ### truths, one after another -/
abbrev IsB (b : Bool) (Ω : AH) : Av → AH → Prop := fun a Ω' => a = .dat (.bool b) ∧ Ω' = Ω
abbrev IsT (b : Bool) (Ω : AH) : Bool → AH → Prop := fun a Ω' => a = b ∧ Ω' = Ω
section
variable {K : PySem.W.Frag} {Γ : List (Option Av)} {Ω : AH} {P : Av → AH → Prop} {ta tb : TE} {tt tu : TT} {b1 b2 b : Bool}
theorem e_andB (h1 : EW K ta Γ Ω (IsB b1 Ω)) (h2 : b1 = true → EW K tb Γ Ω (IsB b2 Ω)) : EW K (tAndV ta tb) Γ Ω (IsB (b1 && b2) Ω) :=
  e_andV (h1.mono fun a Ω' ⟨e, eo⟩ => ⟨b1, e, fun z => by subst eo; rw [z, Bool.true_and]; exact h2 z, fun z => by rw [z, Bool.false_and]; exact ⟨rfl, eo⟩⟩)
theorem e_orB (h1 : EW K ta Γ Ω (IsB b1 Ω)) (h2 : b1 = false → EW K tb Γ Ω (IsB b2 Ω)) : EW K (tOrV ta tb) Γ Ω (IsB (b1 || b2) Ω) :=
  e_orV (h1.mono fun a Ω' ⟨e, eo⟩ => ⟨b1, e, fun z => by rw [z, Bool.true_or]; exact ⟨rfl, eo⟩, fun z => by subst eo; rw [z, Bool.false_or]; exact h2 z⟩)
theorem e_notB (h1 : EW K ta Γ Ω (IsB b1 Ω)) : EW K (tNotV ta) Γ Ω (IsB (!b1) Ω) := e_notV (h1.mono fun a Ω' ⟨e, eo⟩ => ⟨b1, e, rfl, eo⟩)
theorem TW.mono {P P' : Bool → AH → Prop} (h : TW K tt Γ Ω P) (f : ∀ b Ω', P b Ω' → P' b Ω') : TW K tt Γ Ω P' := fun F σ H Q k q => h F σ H Q k fun b Ω' H' p => q b Ω' H' (f b Ω' p)
theorem t_andB (h1 : TW K tt Γ Ω (IsT b1 Ω)) (h2 : b1 = true → TW K tu Γ Ω (IsT b2 Ω)) : TW K (tAnd tt tu) Γ Ω (IsT (b1 && b2) Ω) :=
  t_and (h1.mono fun a Ω' ⟨e, eo⟩ => ⟨fun z => by subst eo; rw [← e, z, Bool.true_and]; exact h2 (e.symm.trans z), fun z => ⟨by rw [← e, z, Bool.false_and], eo⟩⟩)
theorem t_orB (h1 : TW K tt Γ Ω (IsT b1 Ω)) (h2 : b1 = false → TW K tu Γ Ω (IsT b2 Ω)) : TW K (tOr tt tu) Γ Ω (IsT (b1 || b2) Ω) :=
  t_or (h1.mono fun a Ω' ⟨e, eo⟩ => ⟨fun z => ⟨by rw [← e, z, Bool.true_or], eo⟩, fun z => by subst eo; rw [← e, z, Bool.false_or]; exact h2 (e.symm.trans z)⟩)
theorem t_notB (h1 : TW K tt Γ Ω (IsT b1 Ω)) : TW K (tNot tt) Γ Ω (IsT (!b1) Ω) := t_not (h1.mono fun a Ω' ⟨e, eo⟩ => ⟨by rw [e], eo⟩)
theorem t_ofB (h : EW K ta Γ Ω (IsB b Ω)) : TW K (tB ta) Γ Ω (IsT b Ω) := t_B (h.mono fun a Ω' ⟨e, eo⟩ => ⟨b, e, rfl, eo⟩)
theorem t_ofC (h : EW K ta Γ Ω (IsB b Ω)) : TW K (tTest ta) Γ Ω (IsT b Ω) := t_test (h.mono fun a Ω' ⟨e, eo⟩ => ⟨b, e, rfl, eo⟩)
theorem s_retB {E : EndA} (h : EW K ta Γ Ω (IsB b Ω)) (q : E.rt (.dat (.bool b)) Ω) : SW K (tRet ta) Γ Ω E := s_ret (h.mono fun a Ω' ⟨e, eo⟩ => by rw [e, eo]; exact q)
theorem s_ifB {E : EndA} {t u : TS} (h : TW K tt Γ Ω (IsT b Ω)) (h1 : b = true → SW K t Γ Ω E) (h2 : b = false → SW K u Γ Ω E) : SW K (tIfS tt t u) Γ Ω E :=
  s_if (h.mono fun a Ω' ⟨e, eo⟩ => by subst e eo; exact ⟨h1, h2⟩)
end
end Dat

set_option Elab.async false
set_option linter.all false
set_option maxRecDepth 100000
set_option maxHeartbeats 3200000
/-! set of a list of ints, sorted(set(list)) -/
namespace SetL
open PySem PySem.Spec PyProof.Rows L2
/-- what a set holds that was just made -/
abbrev mtS (w : World) : Obj := { cls := .type "set", dict := none, data := .set #[] 0 (.fresh 0 0 (!w.params.followText "set-order")) }
section
variable {P : Program} {w : World} {A : Around} {E : Value → Shared → Prop} {s : Shared}
theorem set_of_list {l : Addr} {vs : Array Value} (ks : List Int) {Q : Value → Shared → Prop} (nh : A.handled = none) (pl : s.heap.IsList l vs) (ia : IntsAre vs.toList ks) (bd : ks.length + 1 < scanBound)
    (fin : ∀ (hp2 : Heap) (tk2 c : Nat), SetR w hp2 s.heap.objs.size (fun j => decide (j ∈ ks)) c → c ≤ ks.length → (∀ b o, s.heap.get? b = some o → hp2.get? b = some o) → Q (.ref s.heap.objs.size) { s with heap := hp2, toks := tk2 }) :
    wpAny (model P w) A (call (.type "set") [.ref l]) Q E s := by
  have sz : vs.size = ks.length := by have := IntsAre.length ia; rwa [Array.length_toList] at this
  obtain ⟨mc, mtl, mro⟩ := F.called_set.mro; have mde := F.called_set.made; have sbc := F.called_set.sub
  refine wpAny_call (codeAny_of_tree ?_); show wpAny _ _ (callAny (.type "set") _) _ _ _
  refine wpAny_pure ⟨Code.quiet_builtin _ (by decide +kernel), codeAny_builtin F.entry_type_call ?_⟩; rw [Around.under_plain (weight_type_call_type "set" [.ref l] []) rfl]
  have nt := F.called_set.notType; have cc := F.called_set.canCreate; have tc := F.typeCall_set_1 (.ref l)
  repeat (any_goals (first | assumption | wp_step))
  refine codeAny_mono (code_set_led1 (.ref l) (E := E) (Q₁ := fun x sx => x = .ref s.heap.objs.size ∧ sx = { s with heap := s.heap.push (mtS w) }) ⟨rfl, rfl⟩) fun r1 sr hr1 => ?_
  cases r1 with
  | error z => exact hr1
  | ok fl1 =>
    cases fl1 with
    | ret x =>
      obtain ⟨rfl, rfl⟩ := hr1
      have gS : (s.heap.push (mtS w)).get? s.heap.objs.size = some (mtS w) := Heap.get?_push_size _ rfl
      have tyS : Shared.TypeIs { s with heap := s.heap.push (mtS w) } (.ref s.heap.objs.size) "set" := ⟨_, gS, rfl⟩
      have il := F.called_set.init.lookup; have ib := F.called_set.init.bind (.ref s.heap.objs.size)
      repeat (any_goals (first | assumption | wp_step))
      refine codeAny_mono (codeAny_call_builtin (R := wants (fun x sx => x = .none ∧ ∃ hp2 tk2 c, sx = { s with heap := hp2, toks := tk2 } ∧ SetR w hp2 s.heap.objs.size (fun j => decide (j ∈ ks)) c ∧ c ≤ ks.length ∧
          (∀ b o, s.heap.get? b = some o → hp2.get? b = some o)) E) F.called_set.init.plain F.entry_set_init (check_set_init_1 tyS ?_)) fun r2 sr2 hr2 => ?_
      · obtain ⟨⟨c0, d0, dt0, sl0⟩, ho, hc0, n0, hd0⟩ := pl
        simp only at hc0 hd0; subst hc0; subst hd0
        have ho2 : (s.heap.push (mtS w)).get? l = some { cls := .type "list", dict := d0, data := .seq vs n0, slots := sl0 } := Heap.get?_push_of_some _ ho
        have f1 := F.sub_list_set; have f2 := F.sub_list_frozenset; have f3 : (Value.type "list" == Value.type "dict") = false := by decide
        have pl2 : (s.heap.push (mtS w)).IsList l vs := ⟨_, ho2, rfl, n0, rfl⟩
        unfold Builtin.«set.__init__» noKeywords Builtin.Frozenset.updateFrom; generalize hIt : pyIter = It
        wp_walk
        subst hIt
        refine wpAny_pyIter_list pl2 (wpAny_bind (wpAny_runValue ?_))
        have lS : l < s.heap.objs.size := Heap.lt_size ho
        have nh3 : A.in1.in1.in1.handled = none := by simp [nh]
        have psz : (s.heap.push (mtS w)).objs.size = s.heap.objs.size + 1 := Heap.size_push ..
        have ne1 : l ≠ (s.heap.push (mtS w)).objs.size := by rw [psz]; exact Nat.ne_of_lt (Nat.lt_succ_of_lt lS)
        have ne2 : s.heap.objs.size ∉ [(s.heap.push (mtS w)).objs.size, l] := by rw [psz]; simp only [List.mem_cons, List.not_mem_nil, or_false, not_or]; exact ⟨Nat.ne_of_lt (Nat.lt_succ_self _), Nat.ne_of_gt lS⟩
        have val : ∀ (i : Nat) (v : Value), vs[i]? = some v → ∃ k t, ks[i]? = some k ∧ v = .int k t := fun i v hv => by
          have hi : i < ks.length := by rw [← sz]; exact (Array.getElem?_eq_some_iff.mp hv).1
          obtain ⟨t, e⟩ := PyProof.Rows.IntsAre.int_at ia i v (by rwa [Array.getElem?_toList])
          exact ⟨ks[i], t, List.getElem?_eq_getElem hi, by rw [e, List.getD_eq_getElem?_getD, List.getElem?_eq_getElem hi]; rfl⟩
        refine set_update_ints ((Walks.list nh3 _ l ne1 vs).toS) s.heap.objs.size ne2 ks sz bd val (vs.size - 0) 0 _ (by omega) (Nat.zero_le _) ⟨⟨_, Heap.get?_push_size _ rfl, rfl, rfl⟩, (pl2.push _)⟩
          ⟨0, Nat.le_refl 0, setR_new_at (Heap.get?_push_of_some _ gS)⟩ fun s3 c3 mv lc hS3 => ?_
        obtain ⟨hp2, g3, d3, tk3, os3⟩ := s3
        have e1 : g3 = s.gens := mv.gens; have e2 : d3 = s.drawn := mv.drawn; have e3 : os3 = s.os := mv.os
        subst e1; subst e2; subst e3
        show wpAny _ _ _ _ _ _; refine wpAny_pure ?_; show wpAny _ _ (ret Value.none) _ _ _
        refine wpAny_pure ⟨rfl, hp2, tk3, c3, rfl, hS3, by rw [sz] at lc; exact lc, fun b o e => ?_⟩
        have hb0 : b < s.heap.objs.size := Heap.lt_size e
        exact mv.heap b o (by rw [psz]; simp only [List.mem_cons, List.not_mem_nil, or_false, not_or]; exact ⟨Nat.ne_of_lt hb0, Nat.ne_of_lt (Nat.lt_succ_of_lt hb0)⟩) (Heap.get?_push_of_some _ (Heap.get?_push_of_some _ e))
      · cases r2 with
        | error z => exact hr2
        | ok fl2 =>
          cases fl2 with
          | ret x =>
            obtain ⟨rfl, hp2, tk2, c, rfl, g1, g2, g3⟩ := hr2
            repeat (any_goals (first | assumption | wp_step))
            exact fin _ _ _ g1 g2 g3
          | _ => exact hr2.elim
    | _ => exact hr1.elim
end
/-- set(list of ints) -/
def rSetL (w : World) : List V → Hp → VK → Prop := fun xs H Q => ∃ (p : Addr) (ks : List Int), xs = [.ref p] ∧ H p = some (.lst (ks.map V.int)) ∧ ks.length ≤ 1000 ∧
  ∀ (a : Addr) (c : Nat), H a = none → c ≤ ks.length → Q (.ref a) (upd H a (SetO w a (fun j => decide (j ∈ ks)) c))
theorem cr_setL {X : Cx} (hc : X.calm = true) : CallR X (.type "set") (rSetL X.w) := by
  intro pins s σ H xs us Q I r h
  obtain ⟨p, ks, rfl, hp, hl, q⟩ := h
  rw [Vals.ref1 r]
  obtain ⟨its, rv, pl, _⟩ := I.list (SqL.of (K := X.K) hp)
  refine set_of_list ks (I.ok.hd hc) pl.isList (by simpa using RZ.intsAre_vals rv) (by unfold scanBound; omega) fun h' tk c R lc k => ?_
  have nf : H s.heap.objs.size = none := I.hok.fresh (Nat.le_refl _)
  refine ⟨.ref s.heap.objs.size, _, ?_, rfl, q _ c nf lc⟩
  exact I.laid (t' := tk) k (Nat.le_refl _) (setO_new R)
end SetL
namespace Dat
open PySem PySem.Spec PyProof.Rows L2
theorem setLQ {X : Cx} {w : World} (hw : X.w = w) (hc : X.calm = true) : CallR X (.type "set") (SetL.rSetL w) := by subst hw; exact SetL.cr_setL hc
theorem sortSetQ {X : Cx} {w : World} (hw : X.w = w) (hc : X.calm = true) : CallR X (.builtin "sorted") (rSortedSet w) := by subst hw; exact cr_sortedSet hc
section
variable {K : PySem.W.Frag} {Γ : List (Option Av)} {Ω : AH} {P : Av → AH → Prop} {tl : TA} {w : World}
theorem e_sortSet (h : AW K tl Γ Ω fun as Ω1 => ∃ ks : List Int, Dats as [.list (ks.map PyData.int)] ∧ ks.length ≤ 40 ∧ ∀ ns : List Int, ns.Pairwise (· < ·) → (∀ k, k ∈ ns ↔ k ∈ ks) → P (.dat (.list (ns.map PyData.int))) Ω1) :
    EW K (tCB (rSortedSet w) (tCons (tCB (SetL.rSetL w) tl) tNil)) Γ Ω P := fun F σ H Q k q =>
  h F σ H _ k fun as vs Ω1 H1 ⟨ks, ea, hl, hp⟩ k1 v1 => by
    rw [ea.eq] at v1
    cases v1 with | cons va v1 => cases v1; cases va with | dat va =>
      obtain ⟨a, rfl, ha⟩ := dq_intsL va
      refine ⟨a, ks, rfl, Fz_le _ _ ha, by omega, fun b c nb lc => ⟨b, _, c, rfl, upd_same, by omega, fun ns p hs hm _ np => ?_⟩⟩
      have k2 := k1.same (same_new (o := SetO w b (fun j => decide (j ∈ ks)) c) nb)
      exact q _ _ _ _ (hp ns hs fun k => by rw [hm k]; simp) (k2.same (same_new np)) (.dat (lst_new k2 np .ofInts))
end
end Dat

set_option Elab.async false
set_option linter.all false
set_option maxRecDepth 100000
set_option maxHeartbeats 1000000
namespace Dat
open PySem PySem.Spec PyProof.Rows L2
section
variable {K : PySem.W.Frag} {Γ : List (Option Av)} {Ω : AH} {g g1 : TG} {te : TE}
/-- a comprehension of two walks that changes nothing -/
theorem e_lc2P {α β : Type} {wi wi1 : TI} {vs vs1 : List Nat} {P : Av → AH → Prop} (xs : List α) (enc : α → Av) (ys : α → List β) (enc1 : β → Av) (out : α → β → PyData) (hg : GN g vs) (hg1 : GN g1 vs1) (hz : xs.length ≤ 200) (hz1 : ∀ x ∈ xs, (ys x).length ≤ 200)
    (h : IW K wi Γ Ω fun as Ω1 => as = xs.map enc ∧ (∀ x Ω', x ∈ xs → (∀ q bs, Ω1 q = some bs → Ω' q = some bs) → GW K g (enc x) (wipeA Γ vs) Ω' fun Γ2 Ω2 => Ω2 = Ω' ∧ IW K wi1 Γ2 Ω2 fun bs Ω3 => Ω3 = Ω' ∧ bs = (ys x).map enc1 ∧
        ∀ y Ω4, y ∈ ys x → (∀ q bs, Ω1 q = some bs → Ω4 q = some bs) → GW K g1 (enc1 y) (wipeA Γ2 vs1) Ω4 fun Γ5 Ω5 => Ω5 = Ω4 ∧ EW K te Γ5 Ω5 fun z Ω6 => Ω6 = Ω4 ∧ z = .dat (out x y)) ∧
      ∀ D, Ω1 D = none → P (.ptr D) (put Ω1 D ((xs.flatMap fun x => (ys x).map (out x)).map .dat))) : EW K (tLc2 wi g tYes wi1 g1 tYes te vs vs1) Γ Ω P := by
  refine fun F σ H Q k q => h F σ H _ k fun as Ω1 H1 J ⟨ea, hb, hp⟩ k1 wk D nD => ?_
  have fD := k1.free nD
  have ext : ∀ acc q bs, Ω1 q = some bs → put Ω1 D acc q = some bs := fun acc q bs hq => by
    rw [put_ne (ne_of_Ω hq fD)]
    exact hq
  refine ⟨fun i m H' => m = as.length - i ∧ i ≤ as.length ∧ ((xs.take i).flatMap fun x => (ys x).map (out x)).length ≤ 200 * i ∧ Ok K (Fz Ω1 H1) (put Ω1 D (((xs.take i).flatMap fun x => (ys x).map (out x)).map .dat)) Γ σ H', ⟨_, rfl, Nat.zero_le _, Nat.zero_le _, k1.re.new nD .nil⟩, ?_⟩
  rintro i m H' ⟨rfl, hi, hl, k'⟩
  by_cases hlt : i < as.length
  · have hlt' : i < xs.length := by rw [ea, List.length_map] at hlt; exact hlt
    have ex : xs[i]? = some xs[i] := List.getElem?_eq_getElem hlt'
    generalize hx : xs[i] = x at ex
    have mx : x ∈ xs := List.mem_of_getElem? ex
    have eas : as[i]? = some (enc x) := by rw [ea, List.getElem?_map, ex]; rfl
    obtain ⟨hgo, hy⟩ := wk.go _ H' k'.bare i _ eas
    have tk : (xs.take (i + 1)).flatMap (fun x => (ys x).map (out x)) = (xs.take i).flatMap (fun x => (ys x).map (out x)) ++ (ys x).map (out x) := by
      rw [List.take_add_one, ex, List.flatMap_append]
      simp
    refine .inr ⟨hgo, fun H2 => ((xs.take (i + 1)).flatMap fun x => (ys x).map (out x)).length ≤ 200 * (i + 1) ∧ Ok K (Fz Ω1 H1) (put Ω1 D (((xs.take (i + 1)).flatMap fun x => (ys x).map (out x)).map .dat)) Γ σ H2, fun H2 k2 => ⟨_, by omega, rfl, by omega, k2⟩, fun x' H2 hyx => ?_⟩
    obtain ⟨s2, v2⟩ := hy x' H2 hyx
    have k2 := k'.same s2
    refine hg x' (L2.wipe σ vs) H2 _ _ (fun σ3 H3 l3 a3 q3 => ⟨wipe_agree l3 a3, q3⟩) ?_
    refine hb x _ mx (ext _) _ (L2.wipe σ vs) H2 x' _ (k2.re.wipe vs) v2 fun Γ3 σ3 Ω3 H3 ⟨e3, h3⟩ k3 => ?_
    subst e3
    refine h3 _ σ3 H3 _ k3.re fun bs Ω4 H4 J1 ⟨e4, eb, hin⟩ k4 wk1 => ?_
    subst e4
    generalize hA : (xs.take i).flatMap (fun x => (ys x).map (out x)) = A at *
    refine ⟨fun j kk H5 => kk = bs.length - j ∧ j ≤ bs.length ∧ Ok K (Fz (put Ω1 D (A.map .dat)) H4) (put Ω1 D ((A ++ ((ys x).take j).map (out x)).map .dat)) Γ3 σ3 H5, ⟨_, rfl, Nat.zero_le _, ?_⟩, ?_⟩
    · rw [List.take_zero, List.map_nil, List.append_nil]
      exact k4.re
    rintro j kk H5 ⟨rfl, hj, k5⟩
    have hly := hz1 x mx
    by_cases hlj : j < bs.length
    · have hlj' : j < (ys x).length := by rw [eb, List.length_map] at hlj; exact hlj
      have ey : (ys x)[j]? = some (ys x)[j] := List.getElem?_eq_getElem hlj'
      generalize hyy : (ys x)[j] = y at ey
      have my : y ∈ ys x := List.mem_of_getElem? ey
      have ebs : bs[j]? = some (enc1 y) := by rw [eb, List.getElem?_map, ey]; rfl
      obtain ⟨hgo1, hy1⟩ := wk1.go _ H5 k5.bare j _ ebs
      have tj : ((ys x).take (j + 1)).map (out x) = ((ys x).take j).map (out x) ++ [out x y] := by
        rw [List.take_add_one, ey, List.map_append]
        rfl
      refine .inr ⟨hgo1, fun H6 => Ok K (Fz (put Ω1 D (A.map .dat)) H4) (put Ω1 D ((A ++ ((ys x).take (j + 1)).map (out x)).map .dat)) Γ3 σ3 H6, fun H6 k6 => ⟨_, by omega, rfl, by omega, k6⟩, fun y' H6 hyz => ?_⟩
      obtain ⟨s6, v6⟩ := hy1 y' H6 hyz
      have k6 := k5.same s6
      refine hg1 y' (L2.wipe σ3 vs1) H6 _ _ (fun σ7 H7 l7 a7 q7 => ⟨wipe_agree l7 a7, q7⟩) ?_
      refine hin y _ my (ext _) _ (L2.wipe σ3 vs1) H6 y' _ (k6.re.wipe vs1) v6 fun Γ7 σ7 Ω7 H7 ⟨e7, h7⟩ k7 => ?_
      subst e7
      refine h7 _ σ7 H7 _ k7.re fun z v Ω8 H8 ⟨e8, ez⟩ k8 v8 => ?_
      subst e8 ez
      have k8' : Ok K (Fz (put Ω1 D (A.map .dat)) H4) _ Γ3 σ3 H8 := k6.back ((k8.anchor k7.fr).bare)
      obtain ⟨zs, hz8, g8⟩ := k8.st D _ put_same
      have l8 := g8.length
      rw [List.length_map, List.length_append, List.length_map, List.length_take] at l8
      refine ⟨zs, hz8, sz_lt (by omega), ?_⟩
      have := k8'.put put_same (g8.app (.cons v8 .nil))
      rw [put_put] at this
      rw [tj, ← List.append_assoc, List.map_append]
      exact this
    · have ej : j = (ys x).length := by rw [eb, List.length_map] at hj hlj; omega
      have ej2 : j = bs.length := by rw [eb, List.length_map]; exact ej
      refine .inl ⟨by rw [ej2]; exact wk1.stop _ H5 k5.bare, ?_, ?_⟩
      · rw [tk, List.length_append, List.length_map]
        omega
      · rw [tk]
        subst ej
        rw [List.take_length] at k5
        exact k2.back ((k5.anchor (k3.fr.trans k4.fr)).bare)
  · have ei : i = xs.length := by rw [ea, List.length_map] at hi hlt; omega
    subst ei
    refine .inl ⟨by have := wk.stop _ H' k'.bare; rw [ea, List.length_map] at this; exact this, q _ _ _ _ (hp D fD) ?_ (.ptr D)⟩
    rw [List.take_length] at k'
    exact k'.anchor k1.fr
theorem e_lc2M {α β : Type} {wi wi1 : TI} {vs vs1 : List Nat} {P : Av → AH → Prop} (xs : List α) (enc : α → Av) (ys : α → List β) (enc1 : β → Av) (out : α → β → PyData) (hg : GN g vs) (hg1 : GN g1 vs1) (hz : xs.length ≤ 200) (hz1 : ∀ x ∈ xs, (ys x).length ≤ 200)
    (h : IW K wi Γ Ω fun as Ω1 => as = xs.map enc ∧ (∀ x Ω', x ∈ xs → (∀ q bs, Ω1 q = some bs → Ω' q = some bs) → GW K g (enc x) (wipeA Γ vs) Ω' fun Γ2 Ω2 => Ω2 = Ω' ∧ IW K wi1 Γ2 Ω2 fun bs Ω3 => Ω3 = Ω' ∧ bs = (ys x).map enc1 ∧
        ∀ y Ω4, y ∈ ys x → (∀ q bs, Ω1 q = some bs → Ω4 q = some bs) → GW K g1 (enc1 y) (wipeA Γ2 vs1) Ω4 fun Γ5 Ω5 => Ω5 = Ω4 ∧ EW K te Γ5 Ω5 fun z Ω6 => Ω6 = Ω4 ∧ z = .dat (out x y)) ∧
      P (.dat (.list (xs.flatMap fun x => (ys x).map (out x)))) Ω1) : EW K (tLc2 wi g tYes wi1 g1 tYes te vs vs1) Γ Ω P := by
  refine EW.frz (e_lc2P xs enc ys enc1 out hg hg1 hz hz1 fun F σ H R k q => h F σ H R k fun as Ω1 H1 J ⟨ea, hb, hp⟩ k1 wk => q as Ω1 H1 J ⟨ea, hb, fun D nD => ⟨D, _, rfl, put_same, ?_⟩⟩ k1 wk)
  rw [del_put nD]
  exact hp
/-! comparisons with a list that may change -/
variable {p : Addr} {ds : List PyData} {e : PyData} {P : Av → AH → Prop}
theorem Ok.listAt {F H : Hp} (k : Ok K F Ω [] [] H) (o : Ω p = some (ds.map .dat)) : Dq K H (.ref p) (.list ds) := by
  obtain ⟨xs, h1, h2⟩ := k.st p _ o
  exact .lst h1 (h2.dats.same Fz_le)
theorem r_eqP (o : Ω p = some (ds.map .dat)) (s1 : SeqAt.shaped (.list ds) = true) (s2 : SeqAt.shaped e = true) (h : P (.dat (.bool (PyData.eqv (.list ds) e))) Ω) : R2W K (rEqD K) (.ptr p) (.dat e) Ω P := fun F H x y Q k hx hy q => by
  cases hx
  cases hy with | dat hy =>
    exact ⟨_, e, (k.listAt o).dp (shaped_lay s1), (hy.same Fz_le).dp (shaped_lay s2), s1, s2, q _ _ _ _ h k (.dat (.bl _))⟩
theorem r_neP (o : Ω p = some (ds.map .dat)) (s1 : SeqAt.shaped (.list ds) = true) (s2 : SeqAt.shaped e = true) (h : P (.dat (.bool (!PyData.eqv (.list ds) e))) Ω) : R2W K (rNeD K) (.ptr p) (.dat e) Ω P := fun F H x y Q k hx hy q => by
  cases hx
  cases hy with | dat hy =>
    exact ⟨_, e, (k.listAt o).dp (shaped_lay s1), (hy.same Fz_le).dp (shaped_lay s2), s1, s2, q _ _ _ _ h k (.dat (.bl _))⟩
end
end Dat

set_option Elab.async false
set_option linter.all false
set_option maxRecDepth 100000
set_option maxHeartbeats 1000000
namespace Dat
open PySem PySem.Spec PyProof.Rows L2
/-! ### a list beside the empty one -/
def rEqNil (K : PySem.W.Frag) : R2 := fun x y H Q => ∃ a b xs, x = .ref a ∧ y = .ref b ∧ SqL K H a xs ∧ SqL K H b [] ∧ Q (.bl xs.isEmpty) H
theorem op_eqNil {X : Cx} (hu : X.A.units + 64 < cLine) : OpR X (compareOp .Eq) (rEqNil X.K) := by
  intro pins s σ H x y v u Q I rx ry h
  obtain ⟨a, b, xs, rfl, rfl, h1, h2, q⟩ := h
  cases rx
  cases ry
  obtain ⟨its, r1, p1, _⟩ := I.list h1
  obtain ⟨jts, r2, p2, _⟩ := I.list h2
  cases r2
  cases r1 with
  | nil => exact SeqAt.eq_listAt (e := fun _ => true) p1.isList p2.isList rfl (by omega) (fun j h1 _ => by simp at h1) ⟨.bl _, H, I, rfl, q⟩
  | cons _ _ => exact SeqAt.eq_list_lengthsAt p1.isList p2.isList (by simp) (by omega) ⟨.bl _, H, I, rfl, q⟩
theorem eqNilQ {X : Cx} {K : PySem.W.Frag} (hK : X.K = K) (hu : X.A.units + 64 < cLine) : OpR X (compareOp .Eq) (rEqNil K) := by subst hK; exact op_eqNil hu
section
variable {K : PySem.W.Frag} {F : Hp} {Γ : List (Option Av)} {Ω : AH} {P : Av → AH → Prop} {ta tb te : TE} {g : TG} {gs : TGs} {a : Av} {as : List Av} {ds : List PyData}
theorem r_eqNil (h : P (.dat (.bool ds.isEmpty)) Ω) : R2W K (rEqNil K) (.dat (.list ds)) (.dat (.list [])) Ω P := fun F H x y Q k hx hy q => by
  cases hx with | dat hx => cases hy with | dat hy => cases hx with | lst h1 g1 => cases hy with | lst h2 g2 =>
    cases g2
    refine ⟨_, _, _, rfl, rfl, SqL.of (Fz_le _ _ h1), SqL.of (Fz_le _ _ h2), ?_⟩
    have e : ∀ {vs : List V}, DqAll K (Fz Ω H) vs ds → vs.isEmpty = ds.isEmpty := fun g => by cases g <;> rfl
    rw [e g1]
    exact q _ _ _ _ h k (.dat (.bl _))
/-- {} -/
theorem e_dnew (h : P (.dat (.dict [])) Ω) : EW K tDNewK Γ Ω P := fun F σ H Q k q p np =>
  q _ _ _ _ h (k.same (same_new np)) (.dat (.dct (Fz_at (k.free np))))
/-- a list's place as a target -/
theorem g_sub {P : List (Option Av) → AH → Prop} (h : EW K ta Γ Ω fun o Ω2 => ∃ p, o = .ptr p ∧ EW K tb Γ Ω2 fun c Ω3 => ∃ (z : Int) (as : List Av) (j : Nat), c = .dat (.int z) ∧ Ω3 p = some as ∧ ixN as.length z = some j ∧ P Γ (put Ω3 p (as.set j a))) : GW K (gSub ta tb rSetL) a Γ Ω P := fun F σ H v Q k1 v1 q => by
  refine h (Fz Ω H) σ H _ k1.re fun o x Ω2 H2 ⟨p, eo, h2⟩ k2 v2 => ?_
  subst eo
  cases v2
  refine h2 (Fz Ω2 H2) σ H2 _ k2.re fun c y Ω3 H3 ⟨z, as, jj, ec, ep, ej, hn⟩ k3 v3 => ?_
  subst ec
  cases v3 with | dat v3 =>
    cases v3
    obtain ⟨xs, hx, g⟩ := k3.st p as ep
    refine ⟨p, xs, z, jj, rfl, rfl, hx, ?_, q _ _ _ _ hn ((k3.anchor (k1.fr.trans k2.fr)).put ep (g.set jj ((v1.same k2.fr).same k3.fr)))⟩
    rw [g.length]
    exact ej
theorem gs_consO {P : List (Option Av) → AH → Prop} (h : GW K g a Γ Ω fun Γ1 Ω1 => GsW K gs as Γ1 Ω1 P) : GsW K (gCons g gs) (a :: as) Γ Ω P := fun F σ H vs Q k hv q => by
  cases hv with | cons hv hr =>
    exact ⟨_, _, rfl, h (Fz Ω H) σ H _ _ k.re hv fun Γ1 σ1 Ω1 H1 h1 k1 => h1 F σ1 H1 _ Q (k1.anchor k.fr) (hr.same k1.fr) q⟩
/-- (x,) * n, n at least 2 -/
theorem dqAll_flat' {H : Hp} {xs : List V} (g : DqAll K H xs ds) : ∀ n : Nat, DqAll K H (List.replicate n xs).flatten (List.replicate n ds).flatten
  | 0 => .nil
  | n + 1 => by
    rw [List.replicate_succ, List.replicate_succ, List.flatten_cons, List.flatten_cons]
    exact g.app (dqAll_flat' g n)
theorem r_repT {k : Int} (ne : ds ≠ []) (h1 : 2 ≤ k) (h2 : k ≤ 1000) (hl : ds.length ≤ 1000) (h : P (.dat (.tuple (List.replicate k.toNat ds).flatten)) Ω) : R2W K (rRepT K) (.dat (.tuple ds)) (.dat (.int k)) Ω P := fun F H x y Q kk hx hy q => by
  cases hx with | dat hx => cases hy with | dat hy =>
    cases hy
    cases hx with | tup hs g =>
      have l := g.length
      refine ⟨_, k, _, rfl, rfl, sqT_same Fz_le hs, fun e => ?_, h1, h2, by omega, fun p np => q _ _ _ _ h (kk.same (same_new np)) (.dat (tup_new kk np (dqAll_flat' g _)))⟩
      subst e
      cases g
      exact ne rfl
theorem repTQ {X : Cx} (hK : X.K = K) : OpR X (binaryOp .Mult) (rRepT K) := by subst hK; exact op_repT
end
theorem dats_pack {as : List Av} {ds : List PyData} {Q : List PyData → Prop} (h1 : Dats as ds) (h2 : Nat.ble ds.length 100000 = true) (h3 : Q ds) : ∃ ds, Dats as ds ∧ Nat.ble ds.length 100000 = true ∧ Q ds := ⟨ds, h1, h2, h3⟩
theorem cutD_mem {α : Type} {xs : List α} {lo hi : Option Int} {x : α} (h : x ∈ cutD xs lo hi) : x ∈ xs := List.mem_of_mem_drop (List.mem_of_mem_take h)
theorem cutD_len {α : Type} {xs : List α} {lo hi : Option Int} : (cutD xs lo hi).length ≤ xs.length := by
  unfold cutD
  rw [List.length_take, List.length_drop]
  omega
end Dat

set_option Elab.async false
set_option linter.all false
set_option maxRecDepth 100000
set_option maxHeartbeats 1000000
namespace Dat
open PySem PySem.Spec PyProof.Rows L2
section
variable {K : PySem.W.Frag} {Γ : List (Option Av)} {Ω : AH} {P : Av → AH → Prop} {ds es : List PyData} {p p2 : Addr} {tl tk : TA} {sp : ASp} {X : XK}
/-- two lists that stay, the sum one that may change -/
theorem r_catLLP (hl : ds.length + es.length ≤ 100000) (h : ∀ q, Ω q = none → P (.ptr q) (put Ω q ((ds ++ es).map .dat))) : R2W K rCat (.dat (.list ds)) (.dat (.list es)) Ω P := fun F H x y Q k hx hy q => by
  cases hx with | dat hx => cases hy with | dat hy => cases hx with | lst h1 g1 => cases hy with | lst h2 g2 =>
    have l1 := g1.length
    have l2 := g2.length
    exact ⟨_, _, _, _, rfl, rfl, Fz_le _ _ h1, Fz_le _ _ h2, sz_of (by omega), fun z nz => q _ _ _ _ (h z (k.free nz)) (k.new nz (.ofDats (g1.app g2))) (.ptr z)⟩
/-- two lists that may change, the sum one that stays -/
theorem r_catPPd (o1 : Ω p = some (ds.map .dat)) (o2 : Ω p2 = some (es.map .dat)) (hl : ds.length + es.length ≤ 100000) (h : P (.dat (.list (ds ++ es))) Ω) : R2W K rCat (.ptr p) (.ptr p2) Ω P := fun F H x y Q k hx hy q => by
  cases hx
  cases hy
  obtain ⟨xs, h1, g1⟩ := k.st p _ o1
  obtain ⟨ys, h2, g2⟩ := k.st p2 _ o2
  have l1 := g1.dats.length
  have l2 := g2.dats.length
  exact ⟨_, _, _, _, rfl, rfl, h1, h2, sz_of (by omega), fun z nz => q _ _ _ _ h (k.same (same_new nz)) (.dat (lst_new k nz (g1.dats.app g2.dats)))⟩
/-- a call with keywords alone -/
theorem e_callK {π : List Nat} {m : Nat} (h : AW K tk Γ Ω fun bs Ω2 => bs.length = m ∧ sp (kwA π bs) Ω2 P) : EW K (tCallN 0 m (spA K sp) (fun _ zs => kwV π zs) X tNil tk) Γ Ω P :=
  e_callN (n := 0) (m := m) (fun _ bs => kwA π bs) (fun F as bs vs us _ h => kw_va h π) (a_nil (fun F σ H Q k q => h F σ H Q k fun bs vs Ω1 H1 ⟨e, hs⟩ => q bs vs Ω1 H1 ⟨rfl, e, hs⟩))
end
end Dat

set_option Elab.async false
set_option linter.all false
set_option maxRecDepth 100000
set_option maxHeartbeats 2000000
/-! enumerate of a tuple, zip of three tuples -/
namespace Enz
open PySem PySem.Spec PyProof.Rows L2
abbrev tIt (t : Addr) : Obj := { cls := .type "tuple_iterator", data := .fields #[.ref t, .int 0 0] }
theorem meets_new1 {v : Value} {ob : Obj} {Z : Heap → Prop} (B : Begins v ob Z) :
    Meets (Builtin.«enumerate.__new__» ⟨[.type "enumerate", v], []⟩) (fun _ R s => Z s.heap ∧
      R (.ok (.ret (.ref (s.heap.push ob).objs.size))) { s with heap := (s.heap.push ob).push { cls := .type "enumerate", data := .fields #[.none, .bool false, .ref s.heap.objs.size, rawInt 0, .none, .none] } }) :=
  .of_wp fun prog w A R s z => by
    obtain ⟨hp, gs, dr, tk, os⟩ := s; obtain ⟨z1, fin⟩ := z; have sb := sub_enumerate
    have it1 : ∀ {A2 : Around} {E2 : Value → Shared → Prop} {Q2 : Value → Shared → Prop}, Q2 (.ref hp.objs.size) ⟨hp.push ob, gs, dr, tk, os⟩ → wpAny (model prog w) A2 (pyIter v) Q2 E2 ⟨hp, gs, dr, tk, os⟩ :=
      fun y => B.iter prog w _ _ ⟨hp, gs, dr, tk, os⟩ _ z1 y
    wp_walk using it1
    refine wpAny_stack_any fun stk => wpAny_pure ?_; split
    · rename_i cl _ _ _ _ _; cases (cl == Value.type "enumerate")
      · wp_walk using it1; exact ⟨_, rfl, fin⟩
      · wp_walk using it1; exact ⟨_, rfl, fin⟩
    · wp_walk using it1; exact ⟨_, rfl, fin⟩
section
variable {prog : Program} {w : World} {A : Around} {E : Value → Shared → Prop} {s : Shared}
theorem call_enum1 {v : Value} {ob : Obj} {Z : Heap → Prop} {Q : Value → Shared → Prop} (B : Begins v ob Z) (z1 : Z s.heap)
    (fin : ∀ h2, IsEnum h2 (s.heap.objs.size + 1) s.heap.objs.size 0 .none → h2.get? s.heap.objs.size = some ob → (∀ b o, s.heap.get? b = some o → h2.get? b = some o) → Q (.ref (s.heap.objs.size + 1)) { s with heap := h2 }) :
    wpAny (model prog w) A (call (.type "enumerate") [v]) Q E s := by
  refine callType_new F.called_enumerate (by decide) (F.typeCall_enumerate_1 _) (F.newCall_enumerate_1 _) (fun x => F.args_object_init_2 x _) F.entry_enumerate_new (meets_new1 B) ⟨z1, ?_⟩
  have sz : (s.heap.push ob).objs.size = s.heap.objs.size + 1 := Heap.size_push ..
  show _ ∧ _; rw [sz]
  have ie : IsEnum ((s.heap.push ob).push { cls := .type "enumerate", data := .fields #[.none, .bool false, .ref s.heap.objs.size, rawInt 0, .none, .none] }) (s.heap.objs.size + 1) s.heap.objs.size 0 .none := by
    have y := Heap.get?_push_size (s.heap.push ob) (o := { cls := .type "enumerate", data := .fields #[.none, .bool false, .ref s.heap.objs.size, rawInt 0, .none, .none] }) rfl
    rw [sz] at y; exact y
  exact ⟨⟨_, ie, rfl⟩, fin _ ie (Heap.get?_push_of_some _ (Heap.get?_push_size _ B.free)) fun b o x => Heap.get?_push_of_some _ (Heap.get?_push_of_some _ x)⟩
end
/-- the tuple at a, each item in a new pair with its number -/
def IteT (K : PySem.W.Frag) (a : Addr) : It :=
  ⟨fun i H => ∃ (xs : List V) (x : V), SqT K H a xs ∧ xs[i]? = some x, fun i H v H' => ∃ T x, v = .ref T ∧ H T = none ∧ H' = upd H T (.tup [.int (i : Nat), x]) ∧ ∀ xs, SqT K H a xs → xs[i]? = some x, fun i H => ∃ xs : List V, SqT K H a xs ∧ xs.length = i⟩
theorem turn_enumT {P : Program} {w : World} {K : PySem.W.Frag} {elts : List Expr} {kk : Nat} {tpos : Pos} (a e it : Addr) :
    Turn P w K (.Tuple elts kk tpos) (IteT K a) [e, it] e (fun i h => (∃ old, IsEnum h e it ((i : Nat) : Int) old) ∧ h.IsTupleIter it a i ∧ e ≠ it ∧ e ≠ a ∧ a ≠ it) where
  mem := by simp
  obj := fun i h st b hb => by
    obtain ⟨⟨old, z1⟩, ⟨o, z2, _, z3⟩, _⟩ := st
    rcases (by simpa using hb : b = e ∨ b = it) with y | y
    · rw [y]; exact ⟨_, z1, fun v q => nomatch q⟩
    · rw [y]; exact ⟨o, z2, fun v q => by rw [z3] at q; cases q⟩
  keep := fun i h h' st k => let ⟨⟨old, z1⟩, z2, z3⟩ := st; ⟨⟨old, k e (by simp) _ z1⟩, z2.at fun o q => k it (by simp) o q, z3⟩
  item := by
    intro X hP hw hK hc i pins s σ H E I hf st hg
    subst hP hw hK
    obtain ⟨⟨old, z1⟩, z2, n1, n2, n3⟩ := st
    obtain ⟨xs, x, hq, hx⟩ := hg
    obtain ⟨its, rv, pt, _⟩ := I.tuple hq
    obtain ⟨u, hu, ru⟩ := rv.get hx
    have li : i < its.length := (List.getElem?_eq_some_iff.mp hu).1
    have el : e < s.heap.objs.size := Heap.lt_size z1
    have il : it < s.heap.objs.size := by obtain ⟨_, q, _⟩ := z2; exact Heap.lt_size q
    have dw := Draws.tuple (prog := X.prog) (w := X.w) (A := X.A.in1) (by simp [I.ok.hd hc]) it a n3 its.toArray
    refine wpAny_pyNext_enum_itemD dw z1 ⟨z2, pt⟩ (by simpa using li) n1 (by simp [n1, n2]) fun y h2 tk py io st2 hT sz k => ?_
    have ey : y = u := by
      have py' : its.toArray[i]? = some y := py
      rw [List.getElem?_toArray, hu] at py'
      exact (Option.some.inj py').symm
    subst ey
    refine ⟨_, rfl, wpAny_letOwnedTupleGo_enum (s := { s with heap := h2, toks := tk + 1 }) io fun h3 ie sb => ?_⟩
    have hT3 : h3.get? s.heap.objs.size = some { cls := .type "tuple", data := .seq #[.int i tk, y] } := (sb.2 _ (Nat.ne_of_gt el)).trans hT
    have new : ObjOk X.prog X.w (upd H s.heap.objs.size (.tup [.int (i : Nat), x])) h3 s.heap.objs.size (.tup [.int (i : Nat), x]) :=
      ⟨by show 2 ≤ sizeLine; decide, [.int i tk, y], .cons ⟨_, rfl⟩ (.cons ru .nil), ⟨_, hT3, rfl, _, rfl⟩⟩
    have I2 : Inv X pins σ (upd H s.heap.objs.size (.tup [.int (i : Nat), x])) { s with heap := h3, toks := tk + 1 } :=
      I.turnedNew (ch := [e, it]) (fun b o hb q => (sb.2 b (fun z => hb (by simp [z]))).trans (k b o (fun z => hb (by simp [z])) (fun z => hb (by simp [z])) q)) hf (Nat.le_refl _) new
    refine ⟨.ref s.heap.objs.size, _, I2, rfl, ⟨_, x, rfl, I.hok.fresh (Nat.le_refl _), rfl, fun ys hy => by rw [I.tuple_inj hy hq]; exact hx⟩, ⟨⟨y, ?_⟩, st2.1.at fun o q => (sb.2 it (Ne.symm n1)).trans q, n1, n2, n3⟩, fun b hb => ?_⟩
    · rw [show ((i + 1 : Nat) : Int) = (i : Int) + 1 by omega]; exact ie
    · have lb : b < s.heap.objs.size := by
        rcases (by simpa using hb : b = e ∨ b = it) with z | z
        · rw [z]; exact el
        · rw [z]; exact il
      rw [upd_ne (Nat.ne_of_lt lb)]; exact (hf b hb).1
  done := by
    intro X hP hw hK hc i pins s σ H E I hf st hg
    subst hP hw hK
    obtain ⟨⟨old, z1⟩, z2, n1, n2, n3⟩ := st
    obtain ⟨xs, hq, hx⟩ := hg
    obtain ⟨its, rv, pt, _⟩ := I.tuple hq
    obtain ⟨f0, f1, f2, f3, f4, f5⟩ := hf it (by simp)
    have ln := rv.length
    have dw := Draws.tuple (prog := X.prog) (w := X.w) (A := X.A.in1) (by simp [I.ok.hd hc]) it a n3 its.toArray
    have ei : i = its.toArray.size := by rw [List.size_toArray]; omega
    subst ei
    exact wpAny_pyNext_enum_endD dw z1 ⟨z2, pt⟩ fun h2 eb => ⟨rfl, I.turned (t' := s.toks) (fun b o hb q => eb b o hb q) f0 f1 f3 f4 f5⟩
  self := fun A i s Q E st h => let ⟨⟨_, z1⟩, _⟩ := st; wpAny_pyIter_enum z1 h
def iEnumT (K : PySem.W.Frag) (ta : TA) : TI := fun σ H R => ta σ H fun vs H1 => ∃ a xs, vs = [.ref a] ∧ SqT K H1 a xs ∧ R (IteT K a) H1
theorem pi_enumT {X : Cx} {e : Expr} {ta : TA} {p pos tpos : Pos} {elts : List Expr} {kk : Nat} (hg : Gl X "enumerate") (hm : X.mg "enumerate" = none) (ha : PA X [e] ta) (hs : starEach [e] X.env = [(false, eval e X.env)] := by rfl) :
    PI X (.Tuple elts kk tpos) (.Call (.Name "enumerate" p) [e] [] pos) (iEnumT X.K ta) := by
  refine ⟨fun pins s σ H R I h => Call_ (ld_blt I hg hm boot_enumerate (PyProof.Rows.callWith_type1 (thn (ha.run pos pins s σ H _ I h) fun us s1 ⟨vs, H1, I1, r1, q1⟩ => ?_) hs rfl))⟩
  obtain ⟨a, xs, ex, hq, q⟩ := q1
  subst ex
  cases r1 with | cons r rr =>
    cases rr; cases r
    obtain ⟨its, rv, pt, _⟩ := I1.tuple hq
    have la : a < s1.heap.objs.size := by obtain ⟨_, y, _⟩ := pt; exact Heap.lt_size y
    refine call_enum1 (begins_tuple a its.toArray) pt fun h2 ie gi k => wpAny_pyIter_enum ie ?_
    have I2 : Inv X pins σ H1 { s1 with heap := h2 } := I1.kept (t' := s1.toks) k
    refine ⟨s1.heap.objs.size + 1, [s1.heap.objs.size + 1, s1.heap.objs.size], _, _, H1, rfl, I2, turn_enumT a (s1.heap.objs.size + 1) s1.heap.objs.size, ⟨⟨.none, ie⟩, ⟨_, gi, rfl, rfl⟩, Nat.succ_ne_self _, Nat.ne_of_gt (Nat.lt_succ_of_lt la), Nat.ne_of_lt la⟩, fun b hb => ?_, q⟩
    have lb : s1.heap.objs.size ≤ b := by
      rcases (by simpa using hb : b = s1.heap.objs.size + 1 ∨ b = s1.heap.objs.size) with z | z
      · rw [z]; exact Nat.le_add_right _ _
      · rw [z]; exact Nat.le_refl _
    exact I1.fpOk lb (I1.hok.fresh lb)
/-! ### zip of three tuples -/
def ItzT3 (K : PySem.W.Frag) (a b c : Addr) : It :=
  ⟨fun i H => ∃ (xs ys zs : List V) (x y z : V), SqT K H a xs ∧ SqT K H b ys ∧ SqT K H c zs ∧ xs[i]? = some x ∧ ys[i]? = some y ∧ zs[i]? = some z,
    fun i H v H' => ∃ T x y z, v = .ref T ∧ H T = none ∧ H' = upd H T (.tup [x, y, z]) ∧ (∀ xs, SqT K H a xs → xs[i]? = some x) ∧ (∀ ys, SqT K H b ys → ys[i]? = some y) ∧ ∀ zs, SqT K H c zs → zs[i]? = some z,
    fun i H => ∃ xs ys zs : List V, SqT K H a xs ∧ SqT K H b ys ∧ SqT K H c zs ∧ xs.length = i ∧ ys.length = i ∧ zs.length = i⟩
theorem pick {its : List Value} {i : Nat} {u y : Value} (hu : its[i]? = some u) (hy : its.toArray[i]? = some y) : y = u := by
  rw [List.getElem?_toArray, hu] at hy
  exact (Option.some.inj hy).symm
theorem turn_zip3 {P : Program} {w : World} {K : PySem.W.Frag} {elts : List Expr} {kk : Nat} {tpos : Pos} {a b c z TI TO i1 i2 i3 : Addr} (D : ZipSep3 z TI TO i1 i2 i3 [i1, a] [i2, b] [i3, c]) (na : a ≠ i1) (nb : b ≠ i2) (nc : c ≠ i3) :
    Turn P w K (.Tuple elts kk tpos) (ItzT3 K a b c) [z, TI, TO, i1, i2, i3] z (fun i h => IsZip h z TI TO .none ∧ IsTupOf3 h TI (.ref i1) (.ref i2) (.ref i3) ∧ (∃ x y u, IsTupOf3 h TO x y u) ∧ h.IsTupleIter i1 a i ∧ h.IsTupleIter i2 b i ∧ h.IsTupleIter i3 c i) where
  mem := by simp
  obj := fun i h st m hm => by
    obtain ⟨hz, hTI, ⟨x, y, u, hTO⟩, ⟨o1, e1, _, d1⟩, ⟨o2, e2, _, d2⟩, ⟨o3, e3, _, d3⟩⟩ := st
    rcases (by simpa using hm : m = z ∨ m = TI ∨ m = TO ∨ m = i1 ∨ m = i2 ∨ m = i3) with q | q | q | q | q | q
    · rw [q]; exact ⟨_, hz, fun v q => nomatch q⟩
    · rw [q]; exact ⟨_, hTI, fun v q => nomatch q⟩
    · rw [q]; exact ⟨_, hTO, fun v q => nomatch q⟩
    · rw [q]; exact ⟨o1, e1, fun v q => by rw [d1] at q; cases q⟩
    · rw [q]; exact ⟨o2, e2, fun v q => by rw [d2] at q; cases q⟩
    · rw [q]; exact ⟨o3, e3, fun v q => by rw [d3] at q; cases q⟩
  keep := fun i h h' st k => by
    obtain ⟨hz, hTI, ⟨x, y, u, hTO⟩, h1, h2, h3⟩ := st
    exact ⟨k z (by simp) _ hz, k TI (by simp) _ hTI, ⟨x, y, u, k TO (by simp) _ hTO⟩, h1.at fun o q => k i1 (by simp) o q, h2.at fun o q => k i2 (by simp) o q, h3.at fun o q => k i3 (by simp) o q⟩
  item := by
    intro X hP hw hK hc i pins s σ H E I hf st hg
    subst hP hw hK
    obtain ⟨hz, hTI, ⟨x0, y0, u0, hTO⟩, h1, h2, h3⟩ := st
    obtain ⟨xs, ys, zs, x, y, t, hqx, hqy, hqz, hx, hy, ht⟩ := hg
    obtain ⟨its, rv, p1, _⟩ := I.tuple hqx; obtain ⟨jts, rw2, p2, _⟩ := I.tuple hqy; obtain ⟨kts, rw3, p3, _⟩ := I.tuple hqz
    obtain ⟨u1, hu1, ru1⟩ := rv.get hx; obtain ⟨u2, hu2, ru2⟩ := rw2.get hy; obtain ⟨u3, hu3, ru3⟩ := rw3.get ht
    have l1 : i < its.length := (List.getElem?_eq_some_iff.mp hu1).1; have l2 : i < jts.length := (List.getElem?_eq_some_iff.mp hu2).1; have l3 : i < kts.length := (List.getElem?_eq_some_iff.mp hu3).1
    have nh : X.A.in1.handled = none := by simp [I.ok.hd hc]
    have dw1 := Draws.tuple (prog := X.prog) (w := X.w) (A := X.A.in1) nh i1 a na its.toArray
    have dw2 := Draws.tuple (prog := X.prog) (w := X.w) (A := X.A.in1) nh i2 b nb jts.toArray
    have dw3 := Draws.tuple (prog := X.prog) (w := X.w) (A := X.A.in1) nh i3 c nc kts.toArray
    have zl : z < s.heap.objs.size := Heap.lt_size hz
    refine wpAny_pyNext_zipD3_item D dw1 dw2 dw3 hz hTI hTO ⟨h1, p1⟩ ⟨h2, p2⟩ ⟨h3, p3⟩ (by simpa using l1) (by simpa using l2) (by simpa using l3) fun v1 v2 v3 g tk q1 q2 q3 z' TO' s1 s2 s3 hT sz k => ?_
    have e1 := pick hu1 q1; have e2 := pick hu2 q2; have e3 := pick hu3 q3
    subst e1; subst e2; subst e3
    refine ⟨_, rfl, wpAny_letOwnedTupleGo_zip (s := { s with heap := g, toks := tk }) z' fun g2 z'' sb => ?_⟩
    have hT2 : g2.get? s.heap.objs.size = some { cls := .type "tuple", data := .seq #[v1, v2, v3] } := (sb.2 _ (Nat.ne_of_gt zl)).trans hT
    have new : ObjOk X.prog X.w (upd H s.heap.objs.size (.tup [x, y, t])) g2 s.heap.objs.size (.tup [x, y, t]) :=
      ⟨by show 3 ≤ sizeLine; decide, [v1, v2, v3], .cons ru1 (.cons ru2 (.cons ru3 .nil)), ⟨_, hT2, rfl, _, rfl⟩⟩
    have I2 : Inv X pins σ (upd H s.heap.objs.size (.tup [x, y, t])) { s with heap := g2, toks := tk } :=
      I.turnedNew (t' := tk) (ch := [z, TI, TO, i1, i2, i3]) (fun m o hb q => (sb.2 m (fun q' => hb (by simp [q']))).trans (k m o (fun q' => hb (by simp [q'])) (fun q' => hb (by simp [q'])) (fun q' => hb (by simp [q'])) (fun q' => hb (by simp [q'])) (fun q' => hb (by simp [q'])) q)) hf (Nat.le_refl _) new
    refine ⟨.ref s.heap.objs.size, _, I2, rfl, ⟨_, x, y, t, rfl, I.hok.fresh (Nat.le_refl _), rfl, fun l hl => by rw [I.tuple_inj hl hqx]; exact hx, fun l hl => by rw [I.tuple_inj hl hqy]; exact hy, fun l hl => by rw [I.tuple_inj hl hqz]; exact ht⟩, ⟨z'', ?_, ⟨v1, v2, v3, ?_⟩, ?_, ?_, ?_⟩, fun m hm => ?_⟩
    · exact (sb.2 _ D.TIz).trans (k _ _ D.TIz D.TITO D.TIi1 D.TIi2 D.TIi3 hTI)
    · exact (sb.2 _ D.TOz).trans TO'
    · exact s1.1.at fun o q => (sb.2 _ D.zi1.symm).trans q
    · exact s2.1.at fun o q => (sb.2 _ D.zi2.symm).trans q
    · exact s3.1.at fun o q => (sb.2 _ D.zi3.symm).trans q
    · have lm : m < s.heap.objs.size := by
        rcases (by simpa using hm : m = z ∨ m = TI ∨ m = TO ∨ m = i1 ∨ m = i2 ∨ m = i3) with q | q | q | q | q | q
        · rw [q]; exact zl
        · rw [q]; exact Heap.lt_size hTI
        · rw [q]; exact Heap.lt_size hTO
        · rw [q]; obtain ⟨_, w1, _⟩ := h1; exact Heap.lt_size w1
        · rw [q]; obtain ⟨_, w1, _⟩ := h2; exact Heap.lt_size w1
        · rw [q]; obtain ⟨_, w1, _⟩ := h3; exact Heap.lt_size w1
      rw [upd_ne (Nat.ne_of_lt lm)]; exact (hf m hm).1
  done := by
    intro X hP hw hK hc i pins s σ H E I hf st hg
    subst hP hw hK
    obtain ⟨hz, hTI, ⟨x0, y0, u0, hTO⟩, h1, h2, h3⟩ := st
    obtain ⟨xs, ys, zs, hqx, hqy, hqz, ln1, ln2, ln3⟩ := hg
    obtain ⟨its, rv, p1, _⟩ := I.tuple hqx; obtain ⟨jts, rw2, p2, _⟩ := I.tuple hqy; obtain ⟨kts, rw3, p3, _⟩ := I.tuple hqz
    have m1 := rv.length; have m2 := rw2.length; have m3 := rw3.length
    have nh : X.A.in1.handled = none := by simp [I.ok.hd hc]
    have dw1 := Draws.tuple (prog := X.prog) (w := X.w) (A := X.A.in1) nh i1 a na its.toArray
    have dw2 := Draws.tuple (prog := X.prog) (w := X.w) (A := X.A.in1) nh i2 b nb jts.toArray
    have dw3 := Draws.tuple (prog := X.prog) (w := X.w) (A := X.A.in1) nh i3 c nc kts.toArray
    exact wpAny_pyNext_zipD3_end D dw1 dw2 dw3 hz hTI hTO ⟨h1, p1⟩ ⟨h2, p2⟩ ⟨h3, p3⟩ (by simp; omega) (by simp; omega) (by simp; omega) (.inl (by simp; omega)) fun g tk k => ⟨rfl, I.turnedL (t' := tk) (ch := [z, TI, TO, i1, i2, i3]) (fun m o hb q =>
      k m o (fun q' => hb (by simp [q'])) (fun q' => hb (by simp [q'])) (fun q' => hb (by simp [q'])) (fun q' => hb (by simp [q'])) (fun q' => hb (by simp [q'])) q) hf⟩
  self := fun A i s Q E st h => wpAny_pyIter_zip st.1 h
def iZip3 (K : PySem.W.Frag) (ta : TA) : TI := fun σ H R => ta σ H fun vs H1 => ∃ a b c xs ys zs, vs = [.ref a, .ref b, .ref c] ∧ SqT K H1 a xs ∧ SqT K H1 b ys ∧ SqT K H1 c zs ∧ R (ItzT3 K a b c) H1
theorem pi_zip3 {X : Cx} {e e2 e3 : Expr} {ta : TA} {p pos tpos : Pos} {elts : List Expr} {kk : Nat} (hg : Gl X "zip") (hm : X.mg "zip" = none) (ha : PA X [e, e2, e3] ta)
    (hs : starEach [e, e2, e3] X.env = (false, eval e X.env) :: starEach [e2, e3] X.env := by rfl) (hpl : (backTo pos (starEach [e2, e3] X.env)).any (·.1) = false := by rfl) :
    PI X (.Tuple elts kk tpos) (.Call (.Name "zip" p) [e, e2, e3] [] pos) (iZip3 X.K ta) := by
  refine ⟨fun pins s σ H R I h => Call_ (ld_blt I hg hm PyProof.Rows.boot_zip (PyProof.Rows.callWith_type1 (thn (ha.run pos pins s σ H _ I h) fun us s1 ⟨vs, H1, I1, r1, q1⟩ => ?_) hs hpl))⟩
  obtain ⟨a, b, c, xs, ys, zs, ex, hqa, hqb, hqc, q⟩ := q1
  subst ex
  cases r1 with | cons ra r1 => cases r1 with | cons rb r1 => cases r1 with | cons rc r1 =>
    cases r1; cases ra; cases rb; cases rc
    obtain ⟨its, _, p1, _⟩ := I1.tuple hqa; obtain ⟨jts, _, p2, _⟩ := I1.tuple hqb; obtain ⟨kts, _, p3, _⟩ := I1.tuple hqc
    have la : a < s1.heap.objs.size := by obtain ⟨_, y, _⟩ := p1; exact Heap.lt_size y
    have lb : b < s1.heap.objs.size := by obtain ⟨_, y, _⟩ := p2; exact Heap.lt_size y
    have lc : c < s1.heap.objs.size := by obtain ⟨_, y, _⟩ := p3; exact Heap.lt_size y
    refine zip_begins3 (begins_tuple a its.toArray) (begins_tuple b jts.toArray) (begins_tuple c kts.toArray) p1 p2 p3 fun g hz hTI hTO g1 g2 g3 _ k => wpAny_pyIter_zip hz ?_
    have I2 : Inv X pins σ H1 { s1 with heap := g } := I1.kept (t' := s1.toks) k
    have sep : ZipSep3 (s1.heap.objs.size + 5) (s1.heap.objs.size + 3) (s1.heap.objs.size + 4) s1.heap.objs.size (s1.heap.objs.size + 1) (s1.heap.objs.size + 2) [s1.heap.objs.size, a] [s1.heap.objs.size + 1, b] [s1.heap.objs.size + 2, c] :=
      zip_sep3 (fp1 := [a]) (fp2 := [b]) (fp3 := [c]) (by simpa using la) (by simpa using lb) (by simpa using lc)
    refine ⟨s1.heap.objs.size + 5, [s1.heap.objs.size + 5, s1.heap.objs.size + 3, s1.heap.objs.size + 4, s1.heap.objs.size, s1.heap.objs.size + 1, s1.heap.objs.size + 2], _, _, H1, rfl, I2, turn_zip3 sep (Nat.ne_of_lt la) (Nat.ne_of_lt (Nat.lt_succ_of_lt lb)) (Nat.ne_of_lt (Nat.lt_succ_of_lt (Nat.lt_succ_of_lt lc))), ⟨hz, hTI, ⟨_, _, _, hTO⟩, ⟨_, g1, rfl, rfl⟩, ⟨_, g2, rfl, rfl⟩, ⟨_, g3, rfl, rfl⟩⟩, fun m hm => ?_, q⟩
    have lm : s1.heap.objs.size ≤ m := by
      rcases (by simpa using hm : m = s1.heap.objs.size + 5 ∨ m = s1.heap.objs.size + 3 ∨ m = s1.heap.objs.size + 4 ∨ m = s1.heap.objs.size ∨ m = s1.heap.objs.size + 1 ∨ m = s1.heap.objs.size + 2) with z | z | z | z | z | z
      all_goals (rw [z]; first | exact Nat.le_add_right _ _ | exact Nat.le_refl _)
    exact I1.fpOk lm (I1.hok.fresh lm)
end Enz

set_option Elab.async false
set_option linter.all false
set_option maxRecDepth 100000
set_option maxHeartbeats 1000000
namespace Dat
open PySem PySem.Spec PyProof.Rows L2
theorem enumTQ {X : Cx} {K : PySem.W.Frag} {e : Expr} {ta : TA} {p pos tpos : Pos} {elts : List Expr} {kk : Nat} (hK : X.K = K) (hg : Gl X "enumerate") (hm : X.mg "enumerate" = none) (ha : PA X [e] ta) (hs : starEach [e] X.env = [(false, eval e X.env)] := by rfl) :
    PI X (.Tuple elts kk tpos) (.Call (.Name "enumerate" p) [e] [] pos) (Enz.iEnumT K ta) := by
  subst hK
  exact Enz.pi_enumT hg hm ha hs
theorem zip3Q {X : Cx} {K : PySem.W.Frag} {e e2 e3 : Expr} {ta : TA} {p pos tpos : Pos} {elts : List Expr} {kk : Nat} (hK : X.K = K) (hg : Gl X "zip") (hm : X.mg "zip" = none) (ha : PA X [e, e2, e3] ta)
    (hs : starEach [e, e2, e3] X.env = (false, eval e X.env) :: starEach [e2, e3] X.env := by rfl) (hpl : (backTo pos (starEach [e2, e3] X.env)).any (·.1) = false := by rfl) :
    PI X (.Tuple elts kk tpos) (.Call (.Name "zip" p) [e, e2, e3] [] pos) (Enz.iZip3 K ta) := by
  subst hK
  exact Enz.pi_zip3 hg hm ha hs hpl
def enumA (ds : List PyData) : List Av := (List.range ds.length).map fun k => .dat (.tuple [.int (k : Nat), ds.getD k .none])
def zipA (ds es : List PyData) : List Av := (List.range ds.length).map fun k => .dat (.tuple [ds.getD k .none, es.getD k .none])
def zip3A (ds es fs : List PyData) : List Av := (List.range ds.length).map fun k => .dat (.tuple [ds.getD k .none, es.getD k .none, fs.getD k .none])
section
variable {K : PySem.W.Frag} {Γ : List (Option Av)} {Ω : AH} {tl : TA} {ds es fs : List PyData}
theorem rng_at {β : Type} {n i : Nat} {f : Nat → β} {b : β} (h : ((List.range n).map f)[i]? = some b) : i < n ∧ b = f i := by
  rw [List.getElem?_map] at h
  by_cases hi : i < n
  · rw [List.getElem?_range hi] at h
    cases h
    exact ⟨hi, rfl⟩
  · rw [List.getElem?_eq_none (by rw [List.length_range]; omega)] at h
    cases h
theorem getD_dq {H : Hp} {vs : List V} {i : Nat} (g : DqAll K H vs ds) (hi : i < ds.length) : ∃ v, vs[i]? = some v ∧ Dq K H v (ds.getD i .none) := by
  rw [List.getD_eq_getElem?_getD]
  have e : ds[i]? = some ds[i] := List.getElem?_eq_getElem hi
  rw [e]
  exact g.get e
theorem walk_enumT {F : Hp} {a : Addr} {xs : List V} (h : SqT K F a xs) (g : DqAll K F xs ds) : WalkA K F (Enz.IteT K a) (enumA ds) := by
  constructor
  · intro Ω H k i b e
    obtain ⟨hi, rfl⟩ := rng_at e
    obtain ⟨v, ev, hv⟩ := getD_dq g hi
    refine ⟨⟨xs, v, sqT_same (k.fr.trans Fz_le) h, ev⟩, fun x H' hy => ?_⟩
    obtain ⟨T, x2, rfl, nT, rfl, f⟩ := hy
    have := f xs (sqT_same (k.fr.trans Fz_le) h)
    rw [ev] at this
    cases this
    exact ⟨same_new nT, .dat (tup_new k nT (.cons (.int _) (.cons (hv.same k.fr) .nil)))⟩
  · intro Ω H k
    exact ⟨xs, sqT_same (k.fr.trans Fz_le) h, by rw [g.length]; simp [enumA]⟩
theorem walk_zipT {F : Hp} {a b : Addr} {xs ys : List V} (h : SqT K F a xs) (g : DqAll K F xs ds) (h2 : SqT K F b ys) (g2 : DqAll K F ys es) (hl : ds.length = es.length) : WalkA K F (RZ.ItzT K a b) (zipA ds es) := by
  constructor
  · intro Ω H k i c e
    obtain ⟨hi, rfl⟩ := rng_at e
    obtain ⟨v, ev, hv⟩ := getD_dq g hi
    obtain ⟨u, eu, hu⟩ := getD_dq g2 (i := i) (by omega)
    refine ⟨⟨xs, ys, v, u, sqT_same (k.fr.trans Fz_le) h, sqT_same (k.fr.trans Fz_le) h2, ev, eu⟩, fun x H' hy => ?_⟩
    obtain ⟨T, x2, y2, rfl, nT, rfl, f, f2⟩ := hy
    have t1 := f xs (sqT_same (k.fr.trans Fz_le) h)
    have t2 := f2 ys (sqT_same (k.fr.trans Fz_le) h2)
    rw [ev] at t1
    rw [eu] at t2
    cases t1
    cases t2
    exact ⟨same_new nT, .dat (tup_new k nT (.cons (hv.same k.fr) (.cons (hu.same k.fr) .nil)))⟩
  · intro Ω H k
    exact ⟨xs, ys, sqT_same (k.fr.trans Fz_le) h, sqT_same (k.fr.trans Fz_le) h2, .inl (by rw [g.length]; simp [zipA])⟩
theorem walk_zip3 {F : Hp} {a b c : Addr} {xs ys zs : List V} (h : SqT K F a xs) (g : DqAll K F xs ds) (h2 : SqT K F b ys) (g2 : DqAll K F ys es) (h3 : SqT K F c zs) (g3 : DqAll K F zs fs) (hl : ds.length = es.length) (hl2 : ds.length = fs.length) : WalkA K F (Enz.ItzT3 K a b c) (zip3A ds es fs) := by
  constructor
  · intro Ω H k i m e
    obtain ⟨hi, rfl⟩ := rng_at e
    obtain ⟨v, ev, hv⟩ := getD_dq g hi
    obtain ⟨u, eu, hu⟩ := getD_dq g2 (i := i) (by omega)
    obtain ⟨t, et, ht⟩ := getD_dq g3 (i := i) (by omega)
    refine ⟨⟨xs, ys, zs, v, u, t, sqT_same (k.fr.trans Fz_le) h, sqT_same (k.fr.trans Fz_le) h2, sqT_same (k.fr.trans Fz_le) h3, ev, eu, et⟩, fun x H' hy => ?_⟩
    obtain ⟨T, x2, y2, z2, rfl, nT, rfl, f, f2, f3⟩ := hy
    have t1 := f xs (sqT_same (k.fr.trans Fz_le) h)
    have t2 := f2 ys (sqT_same (k.fr.trans Fz_le) h2)
    have t3 := f3 zs (sqT_same (k.fr.trans Fz_le) h3)
    rw [ev] at t1
    rw [eu] at t2
    rw [et] at t3
    cases t1
    cases t2
    cases t3
    exact ⟨same_new nT, .dat (tup_new k nT (.cons (hv.same k.fr) (.cons (hu.same k.fr) (.cons (ht.same k.fr) .nil))))⟩
  · intro Ω H k
    have := g.length
    have := g2.length
    have := g3.length
    refine ⟨xs, ys, zs, sqT_same (k.fr.trans Fz_le) h, sqT_same (k.fr.trans Fz_le) h2, sqT_same (k.fr.trans Fz_le) h3, ?_, ?_, ?_⟩ <;> (simp [zip3A]; omega)
theorem i_enumT {P : List Av → AH → Prop} (h : AW K tl Γ Ω fun as Ω1 => ∃ ds, as = [.dat (.tuple ds)] ∧ P (enumA ds) Ω1) : IW K (Enz.iEnumT K tl) Γ Ω P := fun F σ H R k q =>
  h F σ H _ k fun as vs Ω1 H1 ⟨ds, e, hp⟩ k1 v1 => by
    subst e
    cases v1 with | cons va v1 => cases v1; cases va with | dat va => cases va with | tup hs g =>
      exact ⟨_, _, rfl, sqT_same Fz_le hs, q _ _ _ _ hp k1 (walk_enumT hs g)⟩
theorem i_zipT {P : List Av → AH → Prop} (h : AW K tl Γ Ω fun as Ω1 => ∃ ds es, as = [.dat (.tuple ds), .dat (.tuple es)] ∧ ds.length = es.length ∧ P (zipA ds es) Ω1) : IW K (RZ.iZipA K tl) Γ Ω P := fun F σ H R k q =>
  h F σ H _ k fun as vs Ω1 H1 ⟨ds, es, e, hl, hp⟩ k1 v1 => by
    subst e
    cases v1 with | cons va v1 => cases v1 with | cons vb v1 => cases v1; cases va with | dat va => cases vb with | dat vb => cases va with | tup hs g => cases vb with | tup hs2 g2 =>
      exact ⟨_, _, _, _, rfl, .inr ⟨sqT_same Fz_le hs, sqT_same Fz_le hs2, q _ _ _ _ hp k1 (walk_zipT hs g hs2 g2 hl)⟩⟩
theorem i_zip3 {P : List Av → AH → Prop} (h : AW K tl Γ Ω fun as Ω1 => ∃ ds es fs, as = [.dat (.tuple ds), .dat (.tuple es), .dat (.tuple fs)] ∧ ds.length = es.length ∧ ds.length = fs.length ∧ P (zip3A ds es fs) Ω1) : IW K (Enz.iZip3 K tl) Γ Ω P := fun F σ H R k q =>
  h F σ H _ k fun as vs Ω1 H1 ⟨ds, es, fs, e, hl, hl2, hp⟩ k1 v1 => by
    subst e
    cases v1 with | cons va v1 => cases v1 with | cons vb v1 => cases v1 with | cons vc v1 => cases v1; cases va with | dat va => cases vb with | dat vb => cases vc with | dat vc => cases va with | tup hs g => cases vb with | tup hs2 g2 => cases vc with | tup hs3 g3 =>
      exact ⟨_, _, _, _, _, _, rfl, sqT_same Fz_le hs, sqT_same Fz_le hs2, sqT_same Fz_le hs3, q _ _ _ _ hp k1 (walk_zip3 hs g hs2 g2 hs3 g3 hl hl2)⟩
/-! range(i, j, -1) -/
def rngC (lo c : Int) (n : Nat) : List Av := (List.range n).map fun k => .dat (.int (lo + (k : Nat) * c))
theorem walk_rc {F : Hp} (lo c : Int) (n : Nat) : WalkA K F (Itc lo c n) (rngC lo c n) := by
  constructor
  · intro Ω H k i b e
    obtain ⟨hi, rfl⟩ := rng_at e
    exact ⟨hi, fun x H' hy => by
      obtain ⟨rfl, rfl⟩ := hy
      exact ⟨Same.refl _, .dat (.int _)⟩⟩
  · intro Ω H k
    show n ≤ (rngC lo c n).length
    simp [rngC]
theorem i_rngD {P : List Av → AH → Prop} (h : AW K tl Γ Ω fun as Ω1 => ∃ i j : Int, as = [.dat (.int i), .dat (.int j), .dat (.int (-1))] ∧ (-(2 ^ 62) ≤ i ∧ i < 2 ^ 62 ∧ -(2 ^ 62) ≤ j ∧ j < 2 ^ 62) ∧ P (rngC i (-1) (i - j).toNat) Ω1) : IW K (iRng3 tl) Γ Ω P := fun F σ H R k q =>
  h F σ H _ k fun as vs Ω1 H1 ⟨i, j, e, b, hp⟩ k1 v1 => by
    subst e
    cases v1 with | cons va v1 => cases v1 with | cons vb v1 => cases v1 with | cons vc v1 => cases v1; cases va with | dat va => cases vb with | dat vb => cases vc with | dat vc =>
      cases va
      cases vb
      cases vc
      exact ⟨i, j, -1, _, rfl, RgC.neg b.1 b.2.1 b.2.2.1 b.2.2.2, q _ _ _ _ hp k1 (walk_rc i (-1) _)⟩
/-! lists held alone -/
variable {p : Addr} {P : Av → AH → Prop} {t : TS} {E : EndA} {te : TE}
theorem s_forget (e : Ω p = some (ds.map .dat)) (h : SW K t Γ (del Ω p) E) : SW K t Γ Ω E := fun F σ H D k e' => h F σ H D (k.frz e).1 e'
theorem e_slP {tl th : TO} (h : EW K te Γ Ω fun a Ω1 => ∃ p ds, a = .ptr p ∧ Ω1 p = some (ds.map .dat) ∧ OW K tl Γ Ω1 fun lo Ω2 => Ω2 = Ω1 ∧ OW K th Γ Ω2 fun hi Ω3 => Ω3 = Ω1 ∧ P (.dat (.list (cutD ds lo hi))) Ω3) : EW K (tSl (rSlL K) te tl th) Γ Ω P := fun F σ H Q k q =>
  h F σ H _ k fun a v Ω1 H1 ⟨p, ds, e, o, h1⟩ k1 v1 => by
    subst e
    cases v1
    refine h1 (Fz Ω1 H1) σ H1 _ k1.re fun lo Ω2 H2 ⟨e2, h2⟩ k2 => ?_
    subst e2
    refine h2 _ σ H2 _ k2.re fun hi Ω3 H3 ⟨e3, h3⟩ k3 => ?_
    subst e3
    obtain ⟨xs, hx, g⟩ := k3.st p _ o
    exact ⟨_, _, rfl, SqL.of hx, fun u nu => q _ _ _ _ h3 ((k3.anchor (k1.fr.trans k2.fr)).same (same_new nu)) (.dat (lst_new k3 nu (g.dats.cut lo hi)))⟩
/-- [x] * n -/
theorem r_repL {k : Int} (h1 : 0 ≤ k) (h2 : k ≤ 10000) (hl : ds.length ≤ 5) (h : P (.dat (.list (List.replicate k.toNat ds).flatten)) Ω) : R2W K rRep (.dat (.list ds)) (.dat (.int k)) Ω P := fun F H x y Q kk hx hy q => by
  cases hx with | dat hx => cases hy with | dat hy =>
    cases hy
    cases hx with | lst hs g =>
      have l := g.length
      have z : ds.length * k.toNat ≤ 5 * 10000 := Nat.mul_le_mul hl (by omega)
      refine ⟨_, k, _, rfl, rfl, Fz_le _ _ hs, by omega, by omega, by rw [l]; exact sz_of (by omega), fun u nu => q _ _ _ _ h (kk.same (same_new nu)) (.dat (lst_new kk nu (dqAll_flat' g _)))⟩
theorem flat_one {α : Type} (x : α) : ∀ n : Nat, (List.replicate n [x]).flatten = List.replicate n x
  | 0 => rfl
  | n + 1 => by rw [List.replicate_succ, List.flatten_cons, flat_one x n, List.replicate_succ]; rfl
/-- a new list that changes no more -/
theorem frzNew {L : List PyData} (h : P (.dat (.list L)) Ω) : ∀ q, Ω q = none → (fun a Ω' => ∃ p ds, a = .ptr p ∧ Ω' p = some (ds.map .dat) ∧ P (.dat (.list ds)) (del Ω' p)) (Av.ptr q) (put Ω q (L.map .dat)) := fun q nq =>
  ⟨q, L, rfl, put_same, by rw [del_put nq]; exact h⟩
end
end Dat

set_option Elab.async false
set_option linter.all false
set_option maxRecDepth 100000
set_option maxHeartbeats 1000000
namespace Dat
open PySem PySem.Spec PyProof.Rows L2
section
variable {K : PySem.W.Frag}
theorem r_ixL_any {Ω : AH} {ds : List PyData} {v : Int} {P : Av → AH → Prop} (h0 : 0 ≤ v) (h1 : v < ds.length) (h : ∀ d ∈ ds, P (.dat d) Ω) : R2W K (rIxL K) (.dat (.list ds)) (.dat (.int v)) Ω P := by
  obtain ⟨n, rfl⟩ : ∃ n : Nat, v = n := ⟨v.toNat, (Int.toNat_of_nonneg h0).symm⟩
  have hn : n < ds.length := by omega
  exact r_ixL (atI_nat' (List.getElem?_eq_getElem hn)) (h _ (List.getElem_mem hn))
def intsOf (ds : List PyData) : List Int := ds.map fun | .int i => i | _ => 0
theorem r_ixL_ints {Ω : AH} {ds : List PyData} {v : Int} {P : Av → AH → Prop} (lo hi : Int) (e : ds = (intsOf ds).map PyData.int) (hb : ∀ n ∈ intsOf ds, lo ≤ n ∧ n ≤ hi) (h0 : 0 ≤ v) (h1 : v < ds.length)
    (h : ∀ n, lo ≤ n → n ≤ hi → P (.dat (.int n)) Ω) : R2W K (rIxL K) (.dat (.list ds)) (.dat (.int v)) Ω P :=
  r_ixL_any h0 h1 fun d hd => by
    rw [e] at hd
    obtain ⟨n, hn, rfl⟩ := List.mem_map.mp hd
    exact h n (hb n hn).1 (hb n hn).2
/-- a literal list of numbers -/
def tLits : List Int → TA
  | [] => tNil
  | n :: r => tCons (tC (.int n)) (tLits r)
theorem a_lits {Γ : List (Option Av)} {Ω : AH} : ∀ (ns : List Int) {P : List Av → AH → Prop}, P ((ns.map PyData.int).map .dat) Ω → AW K (tLits ns) Γ Ω P
  | [], _, h => a_nil h
  | n :: r, _, h => a_cons (e_int (a_lits r h))
theorem e_lits {Γ : List (Option Av)} {Ω : AH} {P : Av → AH → Prop} (ns : List Int) (h : P (.dat (.list (ns.map PyData.int))) Ω) (hl : Nat.ble ns.length 100000 = true := by rfl) : EW K (tLst (tLits ns)) Γ Ω P :=
  e_lst (a_lits ns ⟨_, rfl, by rw [List.length_map]; exact Nat.le_of_ble_eq_true hl, h⟩)
theorem put_comm {Ω : AH} {p q : Addr} {as bs : List Av} (h : p ≠ q) : put (put Ω p as) q bs = put (put Ω q bs) p as := by
  funext a
  unfold put
  by_cases e1 : a = q
  · by_cases e2 : a = p
    · exact absurd (e2.symm.trans e1) h
    · rw [if_pos e1, if_neg e2, if_pos e1]
  · rw [if_neg e1, if_neg e1]
end
end Dat

set_option Elab.async false
set_option linter.all false
set_option maxRecDepth 100000
set_option maxHeartbeats 1000000
/-! nested data of small integers: shown within bounds -/
namespace Shw
open PySem PySem.Spec PyProof.Rows L2
structure Sh (d : PyData) (k w : Nat) : Prop where
  s : d.showable = true
  n : d.hasDict = false
  k : d.depth ≤ k
  l : d.leavesShort 13 = true
  w : d.weight ≤ w
theorem Sh.mono {d : PyData} {k w k' w' : Nat} (h : Sh d k w) (hk : k ≤ k') (hw : w ≤ w') : Sh d k' w' := ⟨h.s, h.n, Nat.le_trans h.k hk, h.l, Nat.le_trans h.w hw⟩
theorem log_lt {n k : Nat} (h : n < 2 ^ k) : n = 0 ∨ n.log2 < k := by
  by_cases z : n = 0
  · exact .inl z
  · exact .inr ((Nat.log2_lt z).mpr h)
theorem Sh.int {i : Int} (h : i.natAbs < 10 ^ 12) : Sh (.int i) 0 40 := by
  have e : (10 : Nat) ^ 12 < 2 ^ 40 := by decide
  have hl := log_lt (k := 40) (Nat.lt_trans h e)
  refine ⟨?_, by simp [PyData.hasDict], by simp [PyData.depth], ?_, ?_⟩
  · show decide (i.natAbs.log2 < 1920) = true
    refine decide_eq_true ?_
    rcases hl with z | z
    · rw [z]
      decide
    · omega
  · simp only [PyData.leavesShort, decide_eq_true_eq]
    exact PyData.shown_int_le h
  · simp only [PyData.weight]
    split
    · omega
    · rcases hl with z | z
      · rw [z]
        decide
      · omega
theorem sh_all {k w : Nat} : ∀ {ds : List PyData}, (∀ d ∈ ds, Sh d k w) → PyData.showableAll ds = true ∧ PyData.hasDictAll ds = false ∧ PyData.depthAll ds ≤ k ∧ PyData.leavesShortAll 13 ds = true ∧ PyData.weightAll ds ≤ ds.length * (w + 1)
  | [], _ => ⟨by simp [PyData.showableAll], by simp [PyData.hasDictAll], by simp [PyData.depthAll], by simp [PyData.leavesShortAll], by simp [PyData.weightAll]⟩
  | d :: r, h => by
    obtain ⟨a, b, c, e, f⟩ := sh_all (ds := r) fun y m => h y (List.mem_cons_of_mem _ m)
    have g := h d List.mem_cons_self
    refine ⟨by simp [PyData.showableAll, g.s, a], by simp [PyData.hasDictAll, g.n, b], ?_, by simp [PyData.leavesShortAll, g.l, e], ?_⟩
    · simp only [PyData.depthAll]
      exact Nat.max_le.mpr ⟨g.k, c⟩
    · simp only [PyData.weightAll, List.length_cons]
      have := g.w
      have e2 : (r.length + 1) * (w + 1) = r.length * (w + 1) + (w + 1) := Nat.succ_mul _ _
      omega
theorem Sh.tup {ds : List PyData} {k w n : Nat} (h : ∀ d ∈ ds, Sh d k w) (hn : ds.length ≤ n) : Sh (.tuple ds) (k + 1) (n * (w + 1)) := by
  obtain ⟨a, b, c, e, f⟩ := sh_all h
  have m := Nat.mul_le_mul_right (w + 1) hn
  exact ⟨by simp only [PyData.showable, a], by simp only [PyData.hasDict, b], by simp only [PyData.depth]; omega, by simp only [PyData.leavesShort, e], by simp only [PyData.weight]; omega⟩
theorem Sh.lst {ds : List PyData} {k w n : Nat} (h : ∀ d ∈ ds, Sh d k w) (hn : ds.length ≤ n) : Sh (.list ds) (k + 1) (n * (w + 1)) := by
  obtain ⟨a, b, c, e, f⟩ := sh_all h
  have m := Nat.mul_le_mul_right (w + 1) hn
  exact ⟨by simp only [PyData.showable, a], by simp only [PyData.hasDict, b], by simp only [PyData.depth]; omega, by simp only [PyData.leavesShort, e], by simp only [PyData.weight]; omega⟩
theorem Sh.fits {d : PyData} {k w : Nat} (h : Sh d k w) (hw : w ≤ 2 ^ 20) : d.shown.length ≤ sizeLine := PyData.shown_fits (B := 13) (by decide) (by decide) h.l (Nat.le_trans h.w hw)
end Shw

set_option Elab.async false
set_option linter.all false
set_option maxRecDepth 100000
set_option maxHeartbeats 2000000
/-! the end of a law that shows data as texts and has no code table -/
namespace Grd
open PySem PySem.Spec PyProof.Rows L2
theorem law_callG0 {P : Program} {w : World} {K : PySem.W.Frag} {mg mb : Str → Option Value} {k : Nat} {fa a : Addr} {fd : FuncData} {x : Str} {sp : Sp} {s₁ : Shared} {vs : List Value} {ns : List Int}
    (KX : K.In s₁.heap) (hns : s₁.heap.Ns mainGlobals mg) (hb : s₁.heap.Ns builtinsNs mb) (hbb : ∀ x : Str, x ≠ "__name__" → mb x = bootBuiltins x) (hlim : s₁.heap.NoLimit) (hg : s₁.gens = #[])
    (ha : s₁.heap.get? a = some { cls := .type "list", data := .seq vs.toArray }) (hi : IntsAre vs ns) (hl : ns.length ≤ sizeLine) (hr : Room k callerA)
    (F : ∀ base : Heap, K.In base → base.Ns mainGlobals mg → FnG P w K mg base CX0 k fa fd [x] sp) (hbind : ∀ (s : Shared) (u : Value), BindsTo s fd ⟨[u], []⟩ [(x, u)])
    (hsp : ∀ H : Hp, SqL K H a (ns.map V.int) → sp [.ref a] H (fun v _ => v = .bl true) fun _ _ _ => False) :
    codeAny (model P w) callerA (.call (.ref fa) ⟨[.ref a], []⟩) (fun r s' => r = .ok (.ret (.bool true)) ∧ OldK s₁.heap s'.heap ∧ s'.os = s₁.os ∧ AllBare s'.gens) s₁ := by
  have rv := vals_ints hi
  have lenV := hi.length
  obtain ⟨scr, hscr⟩ : ∃ scr : Option HO, scr = (match K.lookup a with | some _ => none | none => some (HO.frz { cls := .type "list", data := .seq vs.toArray } (.lst (ns.map V.int)))) := ⟨_, rfl⟩
  obtain ⟨H, hH⟩ : ∃ H : Hp, H = fun b => if b = a then scr else none := ⟨_, rfl⟩
  have Ha : H a = scr := by
    rw [hH]
    exact if_pos rfl
  have Hn : ∀ b, b ≠ a → H b = none := fun b h2 => by
    rw [hH]
    exact if_neg h2
  have scrC : scr = none ∨ scr = some (HO.frz { cls := .type "list", data := .seq vs.toArray } (.lst (ns.map V.int))) := by
    rw [hscr]
    cases K.lookup a with
    | some o => exact .inl rfl
    | none => exact .inr rfl
  have free : ∀ {b : Addr} {o : Obj}, s₁.heap.get? b = some o → (∀ v n, o.data ≠ .seq v n) → H b = none := fun {b o} e h1 => by
    refine Hn b fun z => ?_
    rw [z, ha] at e
    cases e
    exact h1 _ _ rfl
  have freeD : ∀ {b : Addr} {o : Obj} {es : Array DictEntry} {n : Nat}, s₁.heap.get? b = some o → o.data = .dict es n → H b = none := fun {b o es n} e d =>
    free e (fun v m z => by rw [d] at z; cases z)
  have ns_ : ∀ {b : Addr} {m : Str → Option Value}, s₁.heap.Ns b m → (hidT s₁.heap H).Ns b m := fun {b m} h => by
    obtain ⟨o, es, ep, e, d, r⟩ := h
    exact ⟨o, es, ep, hidT_get e (freeD e d), d, r⟩
  have kb : K.In (hidT s₁.heap H) := fun b o e => by
    refine hidT_get (KX b o e) ?_
    by_cases h2 : b = a
    · rw [h2, Ha, hscr]
      rw [h2] at e
      rw [e]
    · exact Hn b h2
  have hok : HOk P w H s₁.heap := fun b u e => by
    by_cases h2 : b = a
    · rw [h2, Ha] at e
      rcases scrC with z | z
      · rw [z] at e
        cases e
      · rw [z] at e
        cases e
        rw [h2]
        exact ⟨ha, by rw [List.length_map]; exact hl, vs, _, rv, ha⟩
    · rw [Hn b h2] at e
      cases e
  have md : L2.Mod K mg (hidT s₁.heap H) := by
    obtain ⟨mc, h1, h2⟩ := hlim
    exact ⟨kb, ns_ hns, ⟨mb, ns_ hb, hbb⟩, mc, ns_ h1, h2⟩
  have e0 : Env0 P w K mg (hidT s₁.heap H) callerA [] s₁ H := by
    refine ⟨rfl, md, fun b o e => of_hidT e, Nat.le_of_eq (hidT_size _ _), trivial, fun b hb => ?_, hok, .of_eq hg⟩
    cases (show b ∈ ([] : List Addr) from hb)
  have sq : SqL K H a (ns.map V.int) := by
    cases hk : K.lookup a with
    | some o =>
      have e := KX a o hk
      rw [ha] at e
      cases e
      exact .inr ⟨_, vs.toArray, _, hk, rfl, rfl, rfl, by rw [List.size_toArray, lenV]; exact hl, by simpa using rv⟩
    | none =>
      refine .inl (.inr ⟨{ cls := .type "list", data := .seq vs.toArray }, ?_⟩)
      rw [Ha, hscr, hk]
  refine codeAny_mono ((F _ kb (ns_ hns)).run callerA [] s₁ H ⟨[.ref a], []⟩ [.ref a] [.ref a] _ _ hr rfl e0 (hbind s₁ (.ref a)) (.cons rfl .nil) (hsp H sq)) fun r s' h => ?_
  cases r with
  | error e => exact (show False from h).elim
  | ok fl =>
    cases fl with
    | next => exact (show False from h).elim
    | brk => exact (show False from h).elim
    | cont => exact (show False from h).elim
    | ret u =>
      obtain ⟨v, H', os, bare, un, hok', r', q⟩ := h
      cases (show v = .bl true from q)
      cases (show u = Value.bool true from r')
      have key : ∀ b o, s₁.heap.get? b = some o → s'.heap.get? b = some o := fun b o e => by
        by_cases h2 : b = a
        · rcases scrC with z | z
          · exact un.keep b o e (by rw [h2, Ha, z]) (fun q => by cases (show b ∈ ([] : List Addr) from q)) (fun q => by cases q)
          · have z1 : H b = some (HO.frz { cls := .type "list", data := .seq vs.toArray } (.lst (ns.map V.int))) := by rw [h2, Ha, z]
            obtain ⟨e1, _⟩ := hok b _ z1
            obtain ⟨e2, _⟩ := hok' b _ (un.frzs b _ _ z1)
            rw [e] at e1
            cases e1
            exact e2
        · exact un.keep b o e (Hn b h2) (fun q => by cases (show b ∈ ([] : List Addr) from q)) (fun q => by cases q)
      exact ⟨rfl, ⟨fun b o e => .inl (key b o e), fun b o e => ⟨o, key b o e⟩⟩, os, bare⟩
/-- the end of a law's row, no table -/
theorem walk_ofG0 {l : PySem.W.OpenLaw} {n k : Nat} {q : Program} {loose : List Str} {XP : (Str → Option Value) → Heap → Prop} {YP : World → Heap → Prop} {d : DefRec} {K : Params → PySem.W.Frag} {x : Str}
    (hn : l.most = some n) (hn2 : n ≤ sizeLine) (hdf : d.params.defaults = []) (hr : Room k callerA) (hY : ∀ (w : World) (h : Heap), YP w h → (K w.params).In h)
    (F : ∀ (w : World) (mg : Str → Option Value) (fa : Addr) (h : Heap), (K w.params).In h → h.Ns mainGlobals mg → mg d.name = some (.ref fa) →
      ∃ (fd : FuncData) (sp : Sp), (∀ (s : Shared) (u : Value), BindsTo s fd ⟨[u], []⟩ [(x, u)]) ∧
        (∀ (H : Hp) (a : Addr) (ns : List Int), ns.length ≤ n → SqL (K w.params) H a (ns.map V.int) → sp [.ref a] H (fun v _ => v = .bl true) fun _ _ _ => False) ∧
        ∀ base : Heap, (K w.params).In base → base.Ns mainGlobals mg → FnG l.prog w (K w.params) mg base CX0 k fa fd [x] sp) :
    PySem.W.WalkO q loose XP YP l.row.toRowW d [] (fun f vs => PySem.call f vs) := by
  refine Att.attach_callB hn hdf fun w s₀ s₁ mg mb fa o pm cd doc a vs ns G Y ho hd hcd hmg hobj hints hlen hbits hg => ?_
  have KX := hY w _ Y
  obtain ⟨fd, sp, hb, hsp, hF⟩ := F w mg fa _ KX G.T.g hmg
  exact law_callG0 KX G.T.g G.T.b G.T.builtins G.T.nolimit hg hobj hints (Nat.le_trans hlen hn2) hr hF hb fun H hS => hsp H a ns hlen hS
end Grd

set_option Elab.async false
set_option linter.all false
set_option maxRecDepth 100000
set_option maxHeartbeats 4000000
namespace K14
open PySem PySem.Spec PyProof.Rows L2 Dat
def topS (i : Nat) : Stmt := PySem.Challenge.pw_parlourday_k14_games_held_and_played.main.body.getD i (.Pass ⟨0, 0, 0, 0⟩)
abbrev s_turned : Stmt := topS 1
abbrev N_turned : List Str := ["web", "weight", "target", "moves"]
theorem sc_turned : FnScope ["web", "weight", "target", "moves"] ["web"] (defScope s_turned) := ⟨rfl, rfl, rfl, by decide +kernel, rfl, by decide +kernel, by decide +kernel⟩
abbrev s_is_whole : Stmt := topS 9
abbrev N_is_whole : List Str := ["thing"]
theorem sc_is_whole : FnScope ["thing"] ["thing"] (defScope s_is_whole) := ⟨rfl, rfl, rfl, by decide +kernel, rfl, by decide +kernel, by decide +kernel⟩
abbrev s_is_whole_in : Stmt := topS 10
abbrev N_is_whole_in : List Str := ["thing", "low", "high"]
theorem sc_is_whole_in : FnScope ["thing", "low", "high"] ["thing", "low", "high"] (defScope s_is_whole_in) := ⟨rfl, rfl, rfl, by decide +kernel, rfl, by decide +kernel, by decide +kernel⟩
abbrev s_is_pair : Stmt := topS 11
abbrev N_is_pair : List Str := ["thing"]
theorem sc_is_pair : FnScope ["thing"] ["thing"] (defScope s_is_pair) := ⟨rfl, rfl, rfl, by decide +kernel, rfl, by decide +kernel, by decide +kernel⟩
abbrev s_check_count : Stmt := topS 12
abbrev N_check_count : List Str := ["thing", "low", "high"]
theorem sc_check_count : FnScope ["thing", "low", "high"] ["thing", "low", "high"] (defScope s_check_count) := ⟨rfl, rfl, rfl, by decide +kernel, rfl, by decide +kernel, by decide +kernel⟩
abbrev s_is_web : Stmt := topS 17
abbrev N_is_web : List Str := ["thing", "node"]
theorem sc_is_web : FnScope ["thing", "node"] ["thing"] (defScope s_is_web) := ⟨rfl, rfl, rfl, by decide +kernel, rfl, by decide +kernel, by decide +kernel⟩
abbrev s_is_node : Stmt := topS 18
abbrev N_is_node : List Str := ["thing", "size", "move"]
theorem sc_is_node : FnScope ["thing", "size", "move"] ["thing", "size"] (defScope s_is_node) := ⟨rfl, rfl, rfl, by decide +kernel, rfl, by decide +kernel, by decide +kernel⟩
abbrev s_is_move : Stmt := topS 19
abbrev N_is_move : List Str := ["thing", "size"]
theorem sc_is_move : FnScope ["thing", "size"] ["thing", "size"] (defScope s_is_move) := ⟨rfl, rfl, rfl, by decide +kernel, rfl, by decide +kernel, by decide +kernel⟩
abbrev s_walk_by_lines : Stmt := topS 21
abbrev N_walk_by_lines : List Str := ["web", "lines", "node", "walk", "count", "index"]
theorem sc_walk_by_lines : FnScope ["web", "lines", "node", "walk", "count", "index"] ["web", "lines", "node"] (defScope s_walk_by_lines) := ⟨rfl, rfl, rfl, by decide +kernel, rfl, by decide +kernel, by decide +kernel⟩
abbrev s_first_best : Stmt := topS 22
abbrev N_first_best : List Str := ["moves", "line", "total", "index", "weight", "target"]
theorem sc_first_best : FnScope ["moves", "line", "total", "index", "weight", "target"] ["moves", "line", "total"] (defScope s_first_best) := ⟨rfl, rfl, rfl, by decide +kernel, rfl, by decide +kernel, by decide +kernel⟩
abbrev s_is_game : Stmt := topS 28
abbrev N_is_game : List Str := ["thing", "owners", "web", "owner", "weight", "moves", "_"]
theorem sc_is_game : FnScope ["thing", "owners", "web", "owner", "weight", "moves", "_"] ["thing"] (defScope s_is_game) := ⟨rfl, rfl, rfl, by decide +kernel, rfl, by decide +kernel, by decide +kernel⟩
abbrev s_check_game : Stmt := topS 29
abbrev N_check_game : List Str := ["thing"]
theorem sc_check_game : FnScope ["thing"] ["thing"] (defScope s_check_game) := ⟨rfl, rfl, rfl, by decide +kernel, rfl, by decide +kernel, by decide +kernel⟩
abbrev s_check_owner : Stmt := topS 30
abbrev N_check_owner : List Str := ["thing"]
theorem sc_check_owner : FnScope ["thing"] ["thing"] (defScope s_check_owner) := ⟨rfl, rfl, rfl, by decide +kernel, rfl, by decide +kernel, by decide +kernel⟩
abbrev s_is_way : Stmt := topS 31
abbrev N_is_way : List Str := ["game", "owner", "thing", "owners", "web", "mine", "index", "moves"]
theorem sc_is_way : FnScope ["game", "owner", "thing", "owners", "web", "mine", "index", "moves"] ["game", "owner", "thing"] (defScope s_is_way) := ⟨rfl, rfl, rfl, by decide +kernel, rfl, by decide +kernel, by decide +kernel⟩
abbrev s_held : Stmt := topS 32
abbrev N_held : List Str := ["game", "owner", "way"]
theorem sc_held : FnScope ["game", "owner", "way"] ["game", "owner", "way"] (defScope s_held) := ⟨rfl, rfl, rfl, by decide +kernel, rfl, by decide +kernel, by decide +kernel⟩
abbrev s_held_web : Stmt := topS 33
abbrev N_held_web : List Str := ["game", "way", "index", "moves"]
theorem sc_held_web : FnScope ["game", "way", "index", "moves"] ["game", "way"] (defScope s_held_web) := ⟨rfl, rfl, rfl, by decide +kernel, rfl, by decide +kernel, by decide +kernel⟩
abbrev s_game_turned : Stmt := topS 34
abbrev N_game_turned : List Str := ["game"]
theorem sc_game_turned : FnScope ["game"] ["game"] (defScope s_game_turned) := ⟨rfl, rfl, rfl, by decide +kernel, rfl, by decide +kernel, by decide +kernel⟩
abbrev s_turned_game : Stmt := topS 35
abbrev N_turned_game : List Str := ["game", "owners", "web", "owner"]
theorem sc_turned_game : FnScope ["game", "owners", "web", "owner"] ["game"] (defScope s_turned_game) := ⟨rfl, rfl, rfl, by decide +kernel, rfl, by decide +kernel, by decide +kernel⟩
abbrev s_game_steps : Stmt := topS 36
abbrev N_game_steps : List Str := ["game", "count"]
theorem sc_game_steps : FnScope ["game", "count"] ["game", "count"] (defScope s_game_steps) := ⟨rfl, rfl, rfl, by decide +kernel, rfl, by decide +kernel, by decide +kernel⟩
abbrev s_steps_lines : Stmt := topS 37
abbrev N_steps_lines : List Str := ["game", "count"]
theorem sc_steps_lines : FnScope ["game", "count"] ["game", "count"] (defScope s_steps_lines) := ⟨rfl, rfl, rfl, by decide +kernel, rfl, by decide +kernel, by decide +kernel⟩
abbrev s_lines_left : Stmt := topS 38
abbrev N_lines_left : List Str := ["game", "count", "lines", "_"]
theorem sc_lines_left : FnScope ["game", "count", "lines", "_"] ["game", "count"] (defScope s_lines_left) := ⟨rfl, rfl, rfl, by decide +kernel, rfl, by decide +kernel, by decide +kernel⟩
abbrev s_line_left : Stmt := topS 39
abbrev N_line_left : List Str := ["game", "line", "found", "owner", "moves", "sums", "weight", "target"]
theorem sc_line_left : FnScope ["game", "line", "found", "owner", "moves", "sums", "weight", "target"] ["game", "line"] (defScope s_line_left) := ⟨rfl, rfl, rfl, by decide +kernel, rfl, by decide +kernel, by decide +kernel⟩
abbrev s_steps_play : Stmt := topS 40
abbrev N_steps_play : List Str := ["game", "count"]
theorem sc_steps_play : FnScope ["game", "count"] ["game", "count"] (defScope s_steps_play) := ⟨rfl, rfl, rfl, by decide +kernel, rfl, by decide +kernel, by decide +kernel⟩
abbrev s__law_open : Stmt := topS 42
abbrev N__law_open : List Str := ["_law_script", "_law_k", "_law_cell", "_law_seed"]
theorem sc__law_open : FnScope ["_law_script", "_law_k", "_law_cell", "_law_seed"] ["_law_script", "_law_k"] (defScope s__law_open) := ⟨rfl, rfl, rfl, by decide +kernel, rfl, by decide +kernel, by decide +kernel⟩
abbrev s__law_draw : Stmt := topS 43
abbrev N__law_draw : List Str := ["_law_deck", "_law_many", "_law_taken", "_law_stir"]
theorem sc__law_draw : FnScope ["_law_deck", "_law_many", "_law_taken", "_law_stir"] ["_law_deck", "_law_many"] (defScope s__law_draw) := ⟨rfl, rfl, rfl, by decide +kernel, rfl, by decide +kernel, by decide +kernel⟩
abbrev s__law_web : Stmt := topS 44
abbrev N__law_web : List Str := ["_law_deck", "_law_many", "_law_moves", "_law_most", "_law_size", "_law_found", "_law_node", "_law_own", "_law_move"]
theorem sc__law_web : FnScope ["_law_deck", "_law_many", "_law_moves", "_law_most", "_law_size", "_law_found", "_law_node", "_law_own", "_law_move"] ["_law_deck", "_law_many", "_law_moves", "_law_most"] (defScope s__law_web) := ⟨rfl, rfl, rfl, by decide +kernel, rfl, by decide +kernel, by decide +kernel⟩
abbrev s__law_game : Stmt := topS 45
abbrev N__law_game : List Str := ["_law_deck", "_law_many", "_law_moves", "_law_most", "_law_web_here", "_law_node"]
theorem sc__law_game : FnScope ["_law_deck", "_law_many", "_law_moves", "_law_most", "_law_web_here", "_law_node"] ["_law_deck", "_law_many", "_law_moves", "_law_most"] (defScope s__law_game) := ⟨rfl, rfl, rfl, by decide +kernel, rfl, by decide +kernel, by decide +kernel⟩
abbrev s__law_held : Stmt := topS 46
abbrev N__law_held : List Str := ["_law_match", "_law_side", "_law_path", "_law_owners", "_law_web_here", "_law_k"]
theorem sc__law_held : FnScope ["_law_match", "_law_side", "_law_path", "_law_owners", "_law_web_here", "_law_k"] ["_law_match", "_law_side", "_law_path"] (defScope s__law_held) := ⟨rfl, rfl, rfl, by decide +kernel, rfl, by decide +kernel, by decide +kernel⟩
abbrev s__law_lines : Stmt := topS 47
abbrev N__law_lines : List Str := ["_law_match", "_law_num", "_law_owners", "_law_web_here", "_law_found", "_law_turn", "_law_line", "_law_node", "_law_totals", "_law_weight", "_law_target"]
theorem sc__law_lines : FnScope ["_law_match", "_law_num", "_law_owners", "_law_web_here", "_law_found", "_law_turn", "_law_line", "_law_node", "_law_totals", "_law_weight", "_law_target"] ["_law_match", "_law_num"] (defScope s__law_lines) := ⟨rfl, rfl, rfl, by decide +kernel, rfl, by decide +kernel, by decide +kernel⟩
abbrev s__law_drawn : Stmt := topS 48
abbrev N__law_drawn : List Str := ["_law_deck", "_law_match", "_law_side", "_law_owners", "_law_web_here", "_law_k"]
theorem sc__law_drawn : FnScope ["_law_deck", "_law_match", "_law_side", "_law_owners", "_law_web_here", "_law_k"] ["_law_deck", "_law_match", "_law_side"] (defScope s__law_drawn) := ⟨rfl, rfl, rfl, by decide +kernel, rfl, by decide +kernel, by decide +kernel⟩
abbrev s__law_play : Stmt := topS 49
abbrev N__law_play : List Str := ["_law_match", "_law_lines_here", "_law_num", "_law_node", "_law_found", "_law_left", "_law_moves", "_law_best", "_law_k"]
theorem sc__law_play : FnScope ["_law_match", "_law_lines_here", "_law_num", "_law_node", "_law_found", "_law_left", "_law_moves", "_law_best", "_law_k"] ["_law_match", "_law_lines_here", "_law_num"] (defScope s__law_play) := ⟨rfl, rfl, rfl, by decide +kernel, rfl, by decide +kernel, by decide +kernel⟩
abbrev s__law_steps_right : Stmt := topS 50
abbrev N__law_steps_right : List Str := ["_law_match", "_law_num", "_law_due", "_law_found", "_law_play_here"]
theorem sc__law_steps_right : FnScope ["_law_match", "_law_num", "_law_due", "_law_found", "_law_play_here"] ["_law_match", "_law_num"] (defScope s__law_steps_right) := ⟨rfl, rfl, rfl, by decide +kernel, rfl, by decide +kernel, by decide +kernel⟩
abbrev s__law_right : Stmt := topS 51
abbrev N__law_right : List Str := ["_law_deck", "_law_many", "_law_moves", "_law_match", "_law_owners", "_law_web_here", "_law_kept", "_law_side", "_law_path", "_law_found", "_law_others", "_law_turned", "_law_weight", "_law_target", "_law_node", "_law_num"]
theorem sc__law_right : FnScope ["_law_deck", "_law_many", "_law_moves", "_law_match", "_law_owners", "_law_web_here", "_law_kept", "_law_side", "_law_path", "_law_found", "_law_others", "_law_turned", "_law_weight", "_law_target", "_law_node", "_law_num"] ["_law_deck"] (defScope s__law_right) := ⟨rfl, rfl, rfl, by decide +kernel, rfl, by decide +kernel, by decide +kernel⟩
abbrev s_law : Stmt := topS 52
abbrev N_law : List Str := ["_law_script", "_law_k"]
theorem sc_law : FnScope ["_law_script", "_law_k"] ["_law_script"] (defScope s_law) := ⟨rfl, rfl, rfl, by decide +kernel, rfl, by decide +kernel, by decide +kernel⟩
structure Top (K : PySem.W.Frag) (mg : Str → Option Value) where
  f_turned : Addr
  d_turned : FuncData
  D_turned : DefAt K mg "turned" s_turned ["web"] [] f_turned d_turned
  f_is_whole : Addr
  d_is_whole : FuncData
  D_is_whole : DefAt K mg "is_whole" s_is_whole ["thing"] [] f_is_whole d_is_whole
  f_is_whole_in : Addr
  d_is_whole_in : FuncData
  D_is_whole_in : DefAt K mg "is_whole_in" s_is_whole_in ["thing", "low", "high"] [] f_is_whole_in d_is_whole_in
  f_is_pair : Addr
  d_is_pair : FuncData
  D_is_pair : DefAt K mg "is_pair" s_is_pair ["thing"] [] f_is_pair d_is_pair
  f_check_count : Addr
  d_check_count : FuncData
  D_check_count : DefAt K mg "check_count" s_check_count ["thing", "low", "high"] [] f_check_count d_check_count
  f_is_web : Addr
  d_is_web : FuncData
  D_is_web : DefAt K mg "is_web" s_is_web ["thing"] [] f_is_web d_is_web
  f_is_node : Addr
  d_is_node : FuncData
  D_is_node : DefAt K mg "is_node" s_is_node ["thing", "size"] [] f_is_node d_is_node
  f_is_move : Addr
  d_is_move : FuncData
  D_is_move : DefAt K mg "is_move" s_is_move ["thing", "size"] [] f_is_move d_is_move
  f_walk_by_lines : Addr
  d_walk_by_lines : FuncData
  D_walk_by_lines : DefAt K mg "walk_by_lines" s_walk_by_lines ["web", "lines", "node"] [] f_walk_by_lines d_walk_by_lines
  f_first_best : Addr
  d_first_best : FuncData
  D_first_best : DefAt K mg "first_best" s_first_best ["moves", "line", "total"] [] f_first_best d_first_best
  f_is_game : Addr
  d_is_game : FuncData
  D_is_game : DefAt K mg "is_game" s_is_game ["thing"] [] f_is_game d_is_game
  f_check_game : Addr
  d_check_game : FuncData
  D_check_game : DefAt K mg "check_game" s_check_game ["thing"] [] f_check_game d_check_game
  f_check_owner : Addr
  d_check_owner : FuncData
  D_check_owner : DefAt K mg "check_owner" s_check_owner ["thing"] [] f_check_owner d_check_owner
  f_is_way : Addr
  d_is_way : FuncData
  D_is_way : DefAt K mg "is_way" s_is_way ["game", "owner", "thing"] [] f_is_way d_is_way
  f_held : Addr
  d_held : FuncData
  D_held : DefAt K mg "held" s_held ["game", "owner", "way"] [] f_held d_held
  f_held_web : Addr
  d_held_web : FuncData
  D_held_web : DefAt K mg "held_web" s_held_web ["game", "way"] [] f_held_web d_held_web
  f_game_turned : Addr
  d_game_turned : FuncData
  D_game_turned : DefAt K mg "game_turned" s_game_turned ["game"] [] f_game_turned d_game_turned
  f_turned_game : Addr
  d_turned_game : FuncData
  D_turned_game : DefAt K mg "turned_game" s_turned_game ["game"] [] f_turned_game d_turned_game
  f_game_steps : Addr
  d_game_steps : FuncData
  D_game_steps : DefAt K mg "game_steps" s_game_steps ["game", "count"] [] f_game_steps d_game_steps
  f_steps_lines : Addr
  d_steps_lines : FuncData
  D_steps_lines : DefAt K mg "steps_lines" s_steps_lines ["game", "count"] [] f_steps_lines d_steps_lines
  f_lines_left : Addr
  d_lines_left : FuncData
  D_lines_left : DefAt K mg "lines_left" s_lines_left ["game", "count"] [] f_lines_left d_lines_left
  f_line_left : Addr
  d_line_left : FuncData
  D_line_left : DefAt K mg "line_left" s_line_left ["game", "line"] [] f_line_left d_line_left
  f_steps_play : Addr
  d_steps_play : FuncData
  D_steps_play : DefAt K mg "steps_play" s_steps_play ["game", "count"] [] f_steps_play d_steps_play
  f__law_open : Addr
  d__law_open : FuncData
  D__law_open : DefAt K mg "_law_open" s__law_open ["_law_script", "_law_k"] [] f__law_open d__law_open
  f__law_draw : Addr
  d__law_draw : FuncData
  D__law_draw : DefAt K mg "_law_draw" s__law_draw ["_law_deck", "_law_many"] [] f__law_draw d__law_draw
  f__law_web : Addr
  d__law_web : FuncData
  D__law_web : DefAt K mg "_law_web" s__law_web ["_law_deck", "_law_many", "_law_moves", "_law_most"] [] f__law_web d__law_web
  f__law_game : Addr
  d__law_game : FuncData
  D__law_game : DefAt K mg "_law_game" s__law_game ["_law_deck", "_law_many", "_law_moves", "_law_most"] [] f__law_game d__law_game
  f__law_held : Addr
  d__law_held : FuncData
  D__law_held : DefAt K mg "_law_held" s__law_held ["_law_match", "_law_side", "_law_path"] [] f__law_held d__law_held
  f__law_lines : Addr
  d__law_lines : FuncData
  D__law_lines : DefAt K mg "_law_lines" s__law_lines ["_law_match", "_law_num"] [] f__law_lines d__law_lines
  f__law_drawn : Addr
  d__law_drawn : FuncData
  D__law_drawn : DefAt K mg "_law_drawn" s__law_drawn ["_law_deck", "_law_match", "_law_side"] [] f__law_drawn d__law_drawn
  f__law_play : Addr
  d__law_play : FuncData
  D__law_play : DefAt K mg "_law_play" s__law_play ["_law_match", "_law_lines_here", "_law_num"] [] f__law_play d__law_play
  f__law_steps_right : Addr
  d__law_steps_right : FuncData
  D__law_steps_right : DefAt K mg "_law_steps_right" s__law_steps_right ["_law_match", "_law_num"] [] f__law_steps_right d__law_steps_right
  f__law_right : Addr
  d__law_right : FuncData
  D__law_right : DefAt K mg "_law_right" s__law_right ["_law_deck"] [] f__law_right d__law_right
  b_len : mg "len" = none
  b_isinstance : mg "isinstance" = none
  b_abs : mg "abs" = none
  b_all : mg "all" = none
  b_max : mg "max" = none
  b_min : mg "min" = none
  b_sorted : mg "sorted" = none
  b_repr : mg "repr" = none
  b_int : mg "int" = none
  b_bool : mg "bool" = none
  b_tuple : mg "tuple" = none
  b_list : mg "list" = none
  b_range : mg "range" = none
  b_enumerate : mg "enumerate" = none
  b_zip : mg "zip" = none
  t_MOST_NODES : Tok
  c_MOST_NODES : mg "MOST_NODES" = some (.int 120 t_MOST_NODES)
  t_MOST_MOVES : Tok
  c_MOST_MOVES : mg "MOST_MOVES" = some (.int 12 t_MOST_MOVES)
  t_MOST_WEIGHT : Tok
  c_MOST_WEIGHT : mg "MOST_WEIGHT" = some (.int 1000000 t_MOST_WEIGHT)
  p_OWNERS : Addr
  c_OWNERS : mg "OWNERS" = some (.ref p_OWNERS)
  v_OWNERS : ∀ H, Dq K H (.ref p_OWNERS) (.tuple [.str "house", .str "guests"])
  t_MOST_GAME_NODES : Tok
  c_MOST_GAME_NODES : mg "MOST_GAME_NODES" = some (.int 30 t_MOST_GAME_NODES)
  t_MOST_GAME_WEIGHT : Tok
  c_MOST_GAME_WEIGHT : mg "MOST_GAME_WEIGHT" = some (.int 50 t_MOST_GAME_WEIGHT)
  t_MOST_STEPS : Tok
  c_MOST_STEPS : mg "MOST_STEPS" = some (.int 12 t_MOST_STEPS)
  KN_steps_lines__count_game : KBn K d_steps_lines ["game", "count"] 0 ["count", "game"] (fun _ ws => kwU [1, 0] ws) (fun _ zs => kwV [1, 0] zs)
  KN_game_steps__count_game : KBn K d_game_steps ["game", "count"] 0 ["count", "game"] (fun _ ws => kwU [1, 0] ws) (fun _ zs => kwV [1, 0] zs)
  KN_steps_play__count_game : KBn K d_steps_play ["game", "count"] 0 ["count", "game"] (fun _ ws => kwU [1, 0] ws) (fun _ zs => kwV [1, 0] zs)
  KN_game_turned__game : KBn K d_game_turned ["game"] 0 ["game"] (fun _ ws => kwU [0] ws) (fun _ zs => kwV [0] zs)
  KN_held__way_owner_game : KBn K d_held ["game", "owner", "way"] 0 ["way", "owner", "game"] (fun _ ws => kwU [2, 1, 0] ws) (fun _ zs => kwV [2, 1, 0] zs)
end K14

set_option Elab.async false
set_option linter.all false
set_option maxRecDepth 100000
set_option maxHeartbeats 1000000
namespace K14
open PySem PySem.Spec PyProof.Rows L2 Dat
local macro_rules | `(tactic| trivial) => `(tactic| (first
  | (with_reducible refine s_seq ?_)
  | (with_reducible refine s_asg ?_)
  | (with_reducible refine s_ret ?_)
  | (with_reducible refine s_drop ?_)
  | (with_reducible refine s_next ?_)
  | (with_reducible refine s_retN ?_)
  | (with_reducible refine s_brk ?_)
  | (with_reducible refine s_cont ?_)
  | (with_reducible refine s_if ?_)
  | (with_reducible refine e_int ?_)
  | (with_reducible refine e_str ?_)
  | (with_reducible refine e_bl ?_)
  | (with_reducible refine e_non ?_)
  | (with_reducible refine e_ty ?_)
  | (with_reducible refine e_tupD ?_)
  | (with_reducible refine e_lstD ?_)
  | (with_reducible refine e_op ?_)
  | (with_reducible refine e_un ?_)
  | (with_reducible refine e_then ?_)
  | (with_reducible refine e_cb ?_)
  | (with_reducible refine e_call ?_)
  | (with_reducible refine e_if ?_)
  | (with_reducible refine e_chain ?_)
  | (with_reducible refine e_andV ?_)
  | (with_reducible refine e_orV ?_)
  | (with_reducible refine e_notV ?_)
  | (with_reducible refine a_cons ?_)
  | (with_reducible refine a_nil ?_)
  | (with_reducible refine t_test ?_)
  | (with_reducible refine t_B ?_)
  | (with_reducible refine t_not ?_)
  | (with_reducible refine t_and ?_)
  | (with_reducible refine t_or ?_)
  | (with_reducible refine r_I0i ?_)
  | (with_reducible refine r_I0b ?_)
  | (with_reducible refine r_neg ?_)
  | (with_reducible refine r_isN ?_)
  | (with_reducible refine r_notN ?_)
  | (with_reducible refine c_lenT ?_)
  | (with_reducible refine c_lenL ?_)
  | (with_reducible refine c_intI ?_)
  | (with_reducible refine c_intB ?_)
  | (with_reducible refine c_max2 ?_)
  | (with_reducible refine c_min2 ?_)
  | (with_reducible refine c_abs ?_)
  | (with_reducible refine r_tupL ?_)
  | (with_reducible refine r_tupT ?_)
  | (with_reducible refine c_allM ?_)
  | ((with_reducible apply e_var); (exact rfl))
  | ((with_reducible refine r_eq ?_ ?_); (exact rfl))
  | ((with_reducible refine r_ne ?_ ?_); (exact rfl))
  | (with_reducible refine c_isi kit_int ?_)
  | (with_reducible refine c_isi kit_bool ?_)
  | (with_reducible refine c_isi kit_tuple ?_)
  | (with_reducible refine c_isi kit_list ?_)
  | (with_reducible refine c_isi kit_str ?_)
  | ((with_reducible apply r_ixT); (exact rfl))
  | ((with_reducible apply dats_pack); (iterate 40 (first | exact Dats.nil | apply Dats.cons | skip)); (exact rfl))
  | (with_reducible refine s_asgG ?_) | (with_reducible refine g_name ?_) | ((with_reducible refine g_tup ?_ ?_); (exact rfl)) | (refine gs_nil ?_) | (refine gs_cons ?_) | (with_reducible refine ⟨rfl, ?_⟩)
  | (refine ⟨_, rfl, ?_⟩) | (refine ⟨_, _, rfl, ?_⟩) | (refine ⟨_, _, _, rfl, ?_⟩) | (with_reducible refine ⟨fun _ => ?_, fun _ => ?_⟩) | fail))
/-! ### webs, games, as data -/
abbrev Mv := Int × Int
abbrev Nd := List Mv
abbrev Wb := List Nd
def mvD (m : Mv) : PyData := .tuple [.int m.1, .int m.2]
def ndD (n : Nd) : PyData := .tuple (n.map mvD)
def wbD (W : Wb) : PyData := .tuple (W.map ndD)
def owD (b : Bool) : PyData := .str (if b then "house" else "guests")
def gmD (os : List Bool) (W : Wb) : PyData := .tuple [.tuple (os.map owD), wbD W]
def MvOk (size : Nat) (m : Mv) : Prop := -50 ≤ m.1 ∧ m.1 ≤ 50 ∧ 0 ≤ m.2 ∧ m.2 < size
def NdOk (size : Nat) (n : Nd) : Prop := 1 ≤ n.length ∧ n.length ≤ 12 ∧ ∀ m ∈ n, MvOk size m
def WbOk (W : Wb) : Prop := 1 ≤ W.length ∧ W.length ≤ 30 ∧ ∀ n ∈ W, NdOk W.length n
def GmOk (os : List Bool) (W : Wb) : Prop := WbOk W ∧ os.length = W.length
def isWh : PyData → Bool
  | .int _ => true
  | _ => false
def inD (lo hi : Int) : PyData → Bool
  | .int i => decide (lo ≤ i) && decide (i ≤ hi)
  | _ => false
section
variable {P : Program} {w : World} {K : PySem.W.Frag} {mg : Str → Option Value} {base : Heap}
theorem ok_is_whole (T : Top K mg) : FnOk P w K mg base CX0 1 T.f_is_whole T.d_is_whole ["thing"] (spA K (spB isWh)) := by
  refine fnA_ok T.D_is_whole.F sc_is_whole (fun as Ω P ⟨d, e, _⟩ => by subst e; rfl) (fun cdv A outer s H E hr => ?_)
  refine ⟨_, (pss_one (ps_ret (pe_and (pe_callB (Dat.isiQ (K := K) rfl) rfl T.b_isinstance bt_isinstance (pa_cons (pv 0) (pa_cons (pe_bltn (v := .ty "int") rfl T.b_int bt_int rfl) pa_nil))) (pe_one (pe_not (pe_callB (Dat.isiQ (K := K) rfl) rfl T.b_isinstance bt_isinstance (pa_cons (pv 0) (pa_cons (pe_bltn (v := .ty "bool") rfl T.b_bool bt_bool rfl) pa_nil)))))))), ?_⟩
  rintro as Ω P ⟨d, rfl, h⟩
  repeat' trivial
  all_goals (cases d <;> simp_all [isIntD, isBoolD, isWh])
abbrev spIn : ASp := fun as Ω P => ∃ d lo hi, as = [.dat d, .dat (.int lo), .dat (.int hi)] ∧ P (.dat (.bool (inD lo hi d))) Ω
theorem ok_is_whole_in (T : Top K mg) : FnOk P w K mg base CX0 2 T.f_is_whole_in T.d_is_whole_in ["thing", "low", "high"] (spA K spIn) := by
  have G_is_whole : FnOk P w K mg base CX0 1 T.f_is_whole T.d_is_whole ["thing"] (spA K (spB isWh)) := ok_is_whole T
  refine fnA_ok T.D_is_whole_in.F sc_is_whole_in (fun as Ω P ⟨d, lo, hi, e, _⟩ => by subst e; rfl) (fun cdv A outer s H E hr => ?_)
  refine ⟨_, (pss_one (ps_ret (pe_and (pe_call G_is_whole (hr.mono (by omega)) rfl T.D_is_whole.g T.D_is_whole.F.kp T.D_is_whole.b .nil pass0 (pa_cons (pv 0) pa_nil)) (pe_one (pe_chain op_le op_le (pv 1) (pv 0) (pv 2)))))), ?_⟩
  rintro as Ω P ⟨d, lo, hi, rfl, h⟩
  refine s_ret (e_andV (e_call (a_cons (e_var rfl (a_nil ⟨d, rfl, _, rfl, fun hw => ?_, fun hw => ?_⟩)))))
  · cases d <;> try (cases hw; done)
    repeat' trivial
    all_goals simp_all [inD]
  · cases d <;> simp_all [isWh, inD]
def pairD : PyData → Bool
  | .tuple ds => decide (ds.length = 2)
  | _ => false
theorem ok_is_pair (T : Top K mg) : FnOk P w K mg base CX0 1 T.f_is_pair T.d_is_pair ["thing"] (spA K (spB pairD)) := by
  refine fnA_ok T.D_is_pair.F sc_is_pair (fun as Ω P ⟨d, e, _⟩ => by subst e; rfl) (fun cdv A outer s H E hr => ?_)
  refine ⟨_, (pss_one (ps_ret (pe_and (pe_callB (Dat.isiQ (K := K) rfl) rfl T.b_isinstance bt_isinstance (pa_cons (pv 0) (pa_cons (pe_bltn (v := .ty "tuple") rfl T.b_tuple bt_tuple rfl) pa_nil))) (pe_one (pe_cmpR op_eq (pe_callB (Dat.lenQ (K := K) rfl) rfl T.b_len bt_len (pa_cons (pv 0) pa_nil)) pe_int (nomark _)))))), ?_⟩
  rintro as Ω P ⟨d, rfl, h⟩
  refine s_ret (e_andV (e_cb (a_cons (e_var rfl (a_cons (e_ty (a_nil (c_isi kit_tuple ⟨_, rfl, fun hw => ?_, fun hw => ?_⟩))))))))
  · cases d <;> try (cases hw; done)
    repeat' trivial
    refine cast (congrArg (fun b => P (Av.dat (.bool b)) Ω) ?_) h
    simp only [pairD, eqD]
    rw [decide_eq_decide]
    omega
  · cases d <;> simp_all [isTupD, pairD]
theorem inD_of {lo hi i : Int} (h0 : lo ≤ i) (h1 : i ≤ hi) : inD lo hi (.int i) = true := by
  simp [inD, h0, h1]
/-! ### what the program finds of drawn webs -/
abbrev spMv : ASp := fun as Ω P => ∃ (n : Nat) (m : Mv), as = [.dat (mvD m), .dat (.int n)] ∧ MvOk n m ∧ P (.dat (.bool true)) Ω
theorem ok_is_move (T : Top K mg) : FnOk P w K mg base CX0 3 T.f_is_move T.d_is_move ["thing", "size"] (spA K spMv) := by
  have G_is_pair : FnOk P w K mg base CX0 1 T.f_is_pair T.d_is_pair ["thing"] (spA K (spB pairD)) := ok_is_pair T
  have G_is_whole_in : FnOk P w K mg base CX0 2 T.f_is_whole_in T.d_is_whole_in ["thing", "low", "high"] (spA K spIn) := ok_is_whole_in T
  refine fnA_ok T.D_is_move.F sc_is_move (fun as Ω P ⟨n, m, e, _⟩ => by subst e; rfl) (fun cdv A outer s H E hr => ?_)
  refine ⟨_, (pss_cons (ps_if (pt_not (pt_val (pe_call G_is_pair (hr.mono (by omega)) rfl T.D_is_pair.g T.D_is_pair.F.kp T.D_is_pair.b .nil pass0 (pa_cons (pv 0) pa_nil))))
      (pss_one (ps_ret pe_bl))
      pss_nil)
    (pss_one (ps_ret (pe_and (pe_call G_is_whole_in (hr.mono (by omega)) rfl T.D_is_whole_in.g T.D_is_whole_in.F.kp T.D_is_whole_in.b .nil pass0 (pa_cons (pe_ix (Dat.ixT (K := K) rfl) (pv 0) pe_int (fun _ _ => rfl)) (pa_cons (pe_un un_neg (pe_glob (v := .int 1000000) rfl T.c_MOST_WEIGHT ⟨_, rfl⟩)) (pa_cons (pe_glob (v := .int 1000000) rfl T.c_MOST_WEIGHT ⟨_, rfl⟩) pa_nil)))) (pe_one (pe_call G_is_whole_in (hr.mono (by omega)) rfl T.D_is_whole_in.g T.D_is_whole_in.F.kp T.D_is_whole_in.b .nil pass0 (pa_cons (pe_ix (Dat.ixT (K := K) rfl) (pv 0) pe_int (fun _ _ => rfl)) (pa_cons pe_int (pa_cons (pe_op op_sub (pv 1) pe_int) pa_nil))))))))), ?_⟩
  rintro as Ω P ⟨n, m, rfl, ⟨h1, h2, h3, h4⟩, h⟩
  refine s_seq (s_ifB (b := !true) (t_notB (t_ofB ?_)) nofun fun _ => s_next ?_)
  · exact e_call (a_cons (e_var rfl (a_nil ⟨_, rfl, rfl, rfl⟩)))
  refine s_retB (b := true && true) (e_andB ?_ fun _ => ?_) h
  · exact e_call (a_cons (e_op (e_var rfl (e_int (r_ixT rfl (a_cons (e_un (e_int (r_neg (a_cons (e_int (a_nil ⟨_, _, _, rfl, by rw [inD_of (by omega) (by omega)], rfl⟩))))))))))))
  · exact e_call (a_cons (e_op (e_var rfl (e_int (r_ixT rfl (a_cons (e_int (a_cons (e_op (e_var rfl (e_int (r_I0i (a_nil ⟨_, _, _, rfl, by rw [inD_of (by omega) (by omega)], rfl⟩)))))))))))))
abbrev spNd : ASp := fun as Ω P => ∃ (n : Nat) (x : Nd), as = [.dat (ndD x), .dat (.int n)] ∧ NdOk n x ∧ P (.dat (.bool true)) Ω
theorem ok_is_node (T : Top K mg) : FnOk P w K mg base CX0 4 T.f_is_node T.d_is_node ["thing", "size"] (spA K spNd) := by
  have G_is_move : FnOk P w K mg base CX0 3 T.f_is_move T.d_is_move ["thing", "size"] (spA K spMv) := ok_is_move T
  refine fnA_ok T.D_is_node.F sc_is_node (fun as Ω P ⟨n, x, e, _⟩ => by subst e; rfl) (fun cdv A outer s H E hr => ?_)
  refine ⟨_, (pss_cons (ps_if (pt_not (PW.pt (pw_and (pt_val (pe_callB (Dat.isiQ (K := K) rfl) rfl T.b_isinstance bt_isinstance (pa_cons (pv 0) (pa_cons (pe_bltn (v := .ty "tuple") rfl T.b_tuple bt_tuple rfl) pa_nil)))) (pw_and1 (pt_chain op_le op_le pe_int (pe_callB (Dat.lenQ (K := K) rfl) rfl T.b_len bt_len (pa_cons (pv 0) pa_nil)) (pe_glob (v := .int 12) rfl T.c_MOST_MOVES ⟨_, rfl⟩))))))
      (pss_one (ps_ret pe_bl))
      pss_nil)
    (pss_one (ps_ret (pe_callB (Dat.allQ (K := K) rfl rfl) rfl T.b_all bt_all (pa_cons (pe_lc (own := [("move", 2)]) (g := (gName 2)) (tt := tYes) rfl sc_is_node.nd (Dat.piT (K := K) rfl (pv 0)) (blkOk_by (N := N_is_node) (sc := defScope s_is_node) (by decide +kernel)) (fun _ _ _ _ _ => (pg_name (i := 2) sc_is_node.nd rfl (Or.inl rfl))) (fun _ _ _ _ _ => pts_nil) (fun _ _ _ _ _ => (pe_call G_is_move (hr.mono (by omega)) rfl T.D_is_move.g T.D_is_move.F.kp T.D_is_move.b .nil pass0 (pa_cons (pv 2) (pa_cons (pv 1) pa_nil))))) pa_nil))))), ?_⟩
  rintro as Ω P ⟨n, x, rfl, ⟨h1, h2, h3⟩, h⟩
  refine s_seq (s_ifB (b := !(true && true)) (t_notB (t_andB (t_ofB ?_) fun _ => t_ofB ?_)) nofun fun _ => s_next ?_)
  · exact e_cb (a_cons (e_var rfl (a_cons (e_ty (a_nil (c_isi kit_tuple ⟨rfl, rfl⟩))))))
  · refine e_chain (e_int (e_cb (a_cons (e_var rfl (a_nil (c_lenT (r_I0b ⟨_, rfl, fun _ => e_int (r_I0b ⟨?_, rfl⟩), fun z => ?_⟩)))))))
    · rw [List.length_map, decide_eq_true (by omega)]
    · rw [List.length_map] at z
      exact absurd (of_decide_eq_false z) (by omega)
  refine s_ret (e_cb (a_cons (e_lcM x (fun m => .dat (mvD m)) (fun _ => .bool true) (gn_name (by decide)) (by omega) ?_)))
  refine i_tup (e_var rfl ⟨_, rfl, ?_, fun m Ω' hm _ => g_name ⟨rfl, e_call (a_cons (e_var rfl (a_cons (e_var rfl (a_nil ⟨n, m, rfl, h3 m hm, rfl, rfl⟩)))))⟩, a_nil (c_allM ?_)⟩)
  · rw [List.map_map]
    rfl
  · rw [List.all_eq_true.mpr fun _ _ => rfl]
    exact h
abbrev spWb : ASp := fun as Ω P => ∃ W : Wb, as = [.dat (wbD W)] ∧ WbOk W ∧ P (.dat (.bool true)) Ω
theorem ok_is_web (T : Top K mg) : FnOk P w K mg base CX0 5 T.f_is_web T.d_is_web ["thing"] (spA K spWb) := by
  have G_is_node : FnOk P w K mg base CX0 4 T.f_is_node T.d_is_node ["thing", "size"] (spA K spNd) := ok_is_node T
  refine fnA_ok T.D_is_web.F sc_is_web (fun as Ω P ⟨W, e, _⟩ => by subst e; rfl) (fun cdv A outer s H E hr => ?_)
  refine ⟨_, (pss_cons (ps_if (pt_not (PW.pt (pw_and (pt_val (pe_callB (Dat.isiQ (K := K) rfl) rfl T.b_isinstance bt_isinstance (pa_cons (pv 0) (pa_cons (pe_bltn (v := .ty "tuple") rfl T.b_tuple bt_tuple rfl) pa_nil)))) (pw_and1 (pt_chain op_le op_le pe_int (pe_callB (Dat.lenQ (K := K) rfl) rfl T.b_len bt_len (pa_cons (pv 0) pa_nil)) (pe_glob (v := .int 120) rfl T.c_MOST_NODES ⟨_, rfl⟩))))))
      (pss_one (ps_ret pe_bl))
      pss_nil)
    (pss_one (ps_ret (pe_callB (Dat.allQ (K := K) rfl rfl) rfl T.b_all bt_all (pa_cons (pe_lc (own := [("node", 1)]) (g := (gName 1)) (tt := tYes) rfl sc_is_web.nd (Dat.piT (K := K) rfl (pv 0)) (blkOk_by (N := N_is_web) (sc := defScope s_is_web) (by decide +kernel)) (fun _ _ _ _ _ => (pg_name (i := 1) sc_is_web.nd rfl (Or.inl rfl))) (fun _ _ _ _ _ => pts_nil) (fun _ _ _ _ _ => (pe_call G_is_node (hr.mono (by omega)) rfl T.D_is_node.g T.D_is_node.F.kp T.D_is_node.b .nil pass0 (pa_cons (pv 1) (pa_cons (pe_callB (Dat.lenQ (K := K) rfl) rfl T.b_len bt_len (pa_cons (pv 0) pa_nil)) pa_nil))))) pa_nil))))), ?_⟩
  rintro as Ω P ⟨W, rfl, ⟨h1, h2, h3⟩, h⟩
  refine s_seq (s_ifB (b := !(true && true)) (t_notB (t_andB (t_ofB ?_) fun _ => t_ofB ?_)) nofun fun _ => s_next ?_)
  · exact e_cb (a_cons (e_var rfl (a_cons (e_ty (a_nil (c_isi kit_tuple ⟨rfl, rfl⟩))))))
  · refine e_chain (e_int (e_cb (a_cons (e_var rfl (a_nil (c_lenT (r_I0b ⟨_, rfl, fun _ => e_int (r_I0b ⟨?_, rfl⟩), fun z => ?_⟩)))))))
    · rw [List.length_map, decide_eq_true (by omega)]
    · rw [List.length_map] at z
      exact absurd (of_decide_eq_false z) (by omega)
  refine s_ret (e_cb (a_cons (e_lcM W (fun m => .dat (ndD m)) (fun _ => .bool true) (gn_name (by decide)) (by omega) ?_)))
  refine i_tup (e_var rfl ⟨_, rfl, ?_, fun m Ω' hm _ => g_name ⟨rfl, e_call (a_cons (e_var rfl (a_cons (e_cb (a_cons (e_var rfl (a_nil (c_lenT (a_nil ⟨W.length, m, by rw [List.length_map], h3 m hm, rfl, rfl⟩)))))))))⟩, a_nil (c_allM ?_)⟩)
  · rw [List.map_map]
    rfl
  · rw [List.all_eq_true.mpr fun _ _ => rfl]
    exact h
/-! turned webs -/
abbrev csT : Scope := { kind := .function, names := [(".0", .local), ("moves", .local), ("tuple", .globalImplicit)], isGenerator := false, isCoroutine := false }
def turnW (W : Wb) : Wb := W.map fun n => n.map fun m => (-m.1, m.2)
abbrev spTw : ASp := fun as Ω P => ∃ W : Wb, as = [.dat (wbD W)] ∧ WbOk W ∧ P (.dat (wbD (turnW W))) Ω
theorem ok_turned (T : Top K mg) : FnOk P w K mg base CX0 1 T.f_turned T.d_turned ["web"] (spA K spTw) := by
  refine fnA_ok T.D_turned.F sc_turned (fun as Ω P ⟨W, e, _⟩ => by subst e; rfl) (fun cdv A outer s H E hr => ?_)
  refine ⟨_, (pss_one (ps_ret (Dat.pe_tupleK (K := K) rfl rfl T.b_tuple (pe_lc (own := [("moves", 3)]) (g := (gName 3)) (tt := tYes) rfl sc_turned.nd (Dat.piT (K := K) rfl (pv 0)) (blkOk_by (N := N_turned) (sc := defScope s_turned) (by decide +kernel)) (fun _ _ _ _ _ => (pg_name (i := 3) sc_turned.nd rfl (Or.inl rfl))) (fun _ _ _ _ _ => pts_nil) (fun _ _ _ _ _ => (Dat.pe_tupleK (K := K) rfl rfl T.b_tuple (pe_lc (own := [("weight", 1), ("target", 2)]) (g := (gTup K 2 (gCons (gName 1) (gCons (gName 2) gNil)))) (tt := tYes) rfl sc_turned.nd (Dat.piT (K := K) rfl (pv 3)) (blkOk_by (N := N_turned) (sc := csT) (by decide +kernel)) (fun _ _ _ _ _ => (Dat.pgT (K := K) (n := 2) rfl rfl (pgs_cons (pg_name (i := 1) sc_turned.nd rfl (Or.inl rfl)) (pgs_cons (pg_name (i := 2) sc_turned.nd rfl (Or.inl rfl)) pgs_nil)))) (fun _ _ _ _ _ => pts_nil) (fun _ _ _ _ _ => (pe_tup (pa_cons (pe_un un_neg (pv 1)) (pa_cons (pv 2) pa_nil))))))))))), ?_⟩
  rintro as Ω P ⟨W, rfl, ⟨h1, h2, h3⟩, h⟩
  refine s_ret (e_then (e_lcM W (fun n => .dat (ndD n)) (fun n => ndD (n.map fun m => (-m.1, m.2))) (gn_name (by decide)) (by omega) ?_))
  refine i_tup (e_var rfl ⟨_, rfl, ?_, fun n Ω' hn _ => g_name ⟨rfl, ?_⟩, r_tupL ?_⟩)
  · rw [List.map_map]
    rfl
  · have hn2 := (h3 n hn).2.1
    refine e_then (e_lcM n (fun m => .dat (mvD m)) (fun m => mvD (-m.1, m.2)) (gn_tup (gns_cons (gn_name (by decide)) (gns_cons (gn_name (by decide)) gns_nil))) (by omega) ?_)
    refine i_tup (e_var rfl ⟨_, rfl, ?_, fun m Ω' hm _ => g_tup rfl (gs_cons (g_name ⟨rfl, gs_cons (g_name ⟨rfl, gs_nil ⟨rfl, ?_⟩⟩)⟩)), r_tupL ⟨rfl, ?_⟩⟩)
    · rw [List.map_map]
      rfl
    · exact e_tupD (a_cons (e_un (e_var rfl (r_neg (a_cons (e_var rfl (a_nil ⟨_, .cons (.cons .nil), rfl, rfl, rfl⟩)))))))
    · show _ = Av.dat (ndD _)
      unfold ndD
      rw [List.map_map]
      rfl
  · show P (.dat (.tuple _)) Ω
    have : (wbD (turnW W)) = .tuple (W.map fun n => ndD (n.map fun m => (-m.1, m.2))) := by
      unfold wbD turnW
      rw [List.map_map]
      rfl
    rw [← this]
    exact h
end
end K14

set_option Elab.async false
set_option linter.all false
set_option maxRecDepth 100000
set_option maxHeartbeats 1000000
namespace K14
open PySem PySem.Spec PyProof.Rows L2 Dat
local macro_rules | `(tactic| trivial) => `(tactic| (first
  | (with_reducible refine s_seq ?_)
  | (with_reducible refine s_asg ?_)
  | (with_reducible refine s_ret ?_)
  | (with_reducible refine s_drop ?_)
  | (with_reducible refine s_next ?_)
  | (with_reducible refine s_retN ?_)
  | (with_reducible refine s_brk ?_)
  | (with_reducible refine s_cont ?_)
  | (with_reducible refine s_if ?_)
  | (with_reducible refine e_int ?_)
  | (with_reducible refine e_str ?_)
  | (with_reducible refine e_bl ?_)
  | (with_reducible refine e_non ?_)
  | (with_reducible refine e_ty ?_)
  | (with_reducible refine e_tupD ?_)
  | (with_reducible refine e_lstD ?_)
  | (with_reducible refine e_op ?_)
  | (with_reducible refine e_un ?_)
  | (with_reducible refine e_then ?_)
  | (with_reducible refine e_cb ?_)
  | (with_reducible refine e_call ?_)
  | (with_reducible refine e_if ?_)
  | (with_reducible refine e_chain ?_)
  | (with_reducible refine e_andV ?_)
  | (with_reducible refine e_orV ?_)
  | (with_reducible refine e_notV ?_)
  | (with_reducible refine a_cons ?_)
  | (with_reducible refine a_nil ?_)
  | (with_reducible refine t_test ?_)
  | (with_reducible refine t_B ?_)
  | (with_reducible refine t_not ?_)
  | (with_reducible refine t_and ?_)
  | (with_reducible refine t_or ?_)
  | (with_reducible refine r_I0i ?_)
  | (with_reducible refine r_I0b ?_)
  | (with_reducible refine r_neg ?_)
  | (with_reducible refine r_isN ?_)
  | (with_reducible refine r_notN ?_)
  | (with_reducible refine c_lenT ?_)
  | (with_reducible refine c_lenL ?_)
  | (with_reducible refine c_intI ?_)
  | (with_reducible refine c_intB ?_)
  | (with_reducible refine c_max2 ?_)
  | (with_reducible refine c_min2 ?_)
  | (with_reducible refine c_abs ?_)
  | (with_reducible refine r_tupL ?_)
  | (with_reducible refine r_tupT ?_)
  | (with_reducible refine c_allM ?_)
  | ((with_reducible apply e_var); (exact rfl))
  | ((with_reducible refine r_eq ?_ ?_); (exact rfl))
  | ((with_reducible refine r_ne ?_ ?_); (exact rfl))
  | (with_reducible refine c_isi kit_int ?_)
  | (with_reducible refine c_isi kit_bool ?_)
  | (with_reducible refine c_isi kit_tuple ?_)
  | (with_reducible refine c_isi kit_list ?_)
  | (with_reducible refine c_isi kit_str ?_)
  | ((with_reducible apply r_ixT); (exact rfl))
  | ((with_reducible apply dats_pack); (iterate 40 (first | exact Dats.nil | apply Dats.cons | skip)); (exact rfl))
  | (with_reducible refine s_asgG ?_) | (with_reducible refine g_name ?_) | ((with_reducible refine g_tup ?_ ?_); (exact rfl)) | (refine gs_nil ?_) | (refine gs_cons ?_) | (with_reducible refine ⟨rfl, ?_⟩)
  | (refine ⟨_, rfl, ?_⟩) | (refine ⟨_, _, rfl, ?_⟩) | (refine ⟨_, _, _, rfl, ?_⟩) | (with_reducible refine ⟨fun _ => ?_, fun _ => ?_⟩) | fail))
theorem getD_lt {α β : Type} {f : α → β} {xs : List α} {k : Nat} {d : β} (e : α) (h : k < xs.length) : (xs.map f).getD k d = f (xs.getD k e) := by
  rw [List.getD_eq_getElem?_getD, List.getD_eq_getElem?_getD, List.getElem?_map, List.getElem?_eq_getElem h]
  rfl
theorem getD_in {α : Type} {xs : List α} {k : Nat} (e : α) (h : k < xs.length) : xs.getD k e ∈ xs := by
  rw [List.getD_eq_getElem?_getD, List.getElem?_eq_getElem h]
  exact List.getElem_mem h
theorem ow_eq (a b : Bool) : eqD (owD a) (owD b) = (a == b) := by cases a <;> cases b <;> decide
theorem own_in (b : Bool) : ([PyData.str "house", PyData.str "guests"].any fun e => PyData.eqv e (owD b)) = true := by cases b <;> decide +kernel
theorem map_rng {α : Type} (f : Nat → α) (xs : List α) (e : α) (h : ∀ k, k < xs.length → f k = xs.getD k e) : (List.range xs.length).map f = xs := by
  apply List.ext_getElem?
  intro i
  rw [List.getElem?_map]
  by_cases hi : i < xs.length
  · rw [List.getElem?_range hi]
    show some (f i) = _
    rw [h i hi, List.getD_eq_getElem?_getD, List.getElem?_eq_getElem hi]
    rfl
  · rw [List.getElem?_eq_none (by rw [List.length_range]; omega), List.getElem?_eq_none (by omega)]
    rfl
section
variable {P : Program} {w : World} {K : PySem.W.Frag} {mg : Str → Option Value} {base : Heap}
abbrev spGm : ASp := fun as Ω P => ∃ (os : List Bool) (W : Wb), as = [.dat (gmD os W)] ∧ GmOk os W ∧ P (.dat (.bool true)) Ω
theorem ok_is_game (T : Top K mg) : FnOk P w K mg base CX0 6 T.f_is_game T.d_is_game ["thing"] (spA K spGm) := by
  have G_is_pair : FnOk P w K mg base CX0 1 T.f_is_pair T.d_is_pair ["thing"] (spA K (spB pairD)) := ok_is_pair T
  have G_is_web : FnOk P w K mg base CX0 5 T.f_is_web T.d_is_web ["thing"] (spA K spWb) := ok_is_web T
  refine fnA_ok T.D_is_game.F sc_is_game (fun as Ω P ⟨os, W, e, _⟩ => by subst e; rfl) (fun cdv A outer s H E hr => ?_)
  refine ⟨_, (pss_cons (ps_if (pt_not (PW.pt (pw_and (pt_val (pe_call G_is_pair (hr.mono (by omega)) rfl T.D_is_pair.g T.D_is_pair.F.kp T.D_is_pair.b .nil pass0 (pa_cons (pv 0) pa_nil))) (pw_and (pt_val (pe_callB (Dat.isiQ (K := K) rfl) rfl T.b_isinstance bt_isinstance (pa_cons (pe_ix (Dat.ixT (K := K) rfl) (pv 0) pe_int (fun _ _ => rfl)) (pa_cons (pe_bltn (v := .ty "tuple") rfl T.b_tuple bt_tuple rfl) pa_nil)))) (pw_and1 (pt_val (pe_call G_is_web (hr.mono (by omega)) rfl T.D_is_web.g T.D_is_web.F.kp T.D_is_web.b .nil pass0 (pa_cons (pe_ix (Dat.ixT (K := K) rfl) (pv 0) pe_int (fun _ _ => rfl)) pa_nil))))))))
      (pss_one (ps_ret pe_bl))
      pss_nil)
    (pss_cons (ps_asg (pv 0) (Dat.pgT (K := K) (n := 2) rfl rfl (pgs_cons (pg_name (i := 1) sc_is_game.nd rfl (.inl rfl)) (pgs_cons (pg_name (i := 2) sc_is_game.nd rfl (.inl rfl)) pgs_nil))))
    (pss_cons (ps_if (PW.pt (pw_or (pt_cmpR op_gt (pe_callB (Dat.lenQ (K := K) rfl) rfl T.b_len bt_len (pa_cons (pv 2) pa_nil)) (pe_glob (v := .int 30) rfl T.c_MOST_GAME_NODES ⟨_, rfl⟩) (nomark _)) (pw_or (pt_cmpR op_ne (pe_callB (Dat.lenQ (K := K) rfl) rfl T.b_len bt_len (pa_cons (pv 1) pa_nil)) (pe_callB (Dat.lenQ (K := K) rfl) rfl T.b_len bt_len (pa_cons (pv 2) pa_nil)) (nomark _)) (pw_or1 (pt_not (pt_val (pe_callB (Dat.allQ (K := K) rfl rfl) rfl T.b_all bt_all (pa_cons (pe_lc (own := [("owner", 3)]) (g := (gName 3)) (tt := tYes) rfl sc_is_game.nd (Dat.piT (K := K) rfl (pv 1)) (blkOk_by (N := N_is_game) (sc := defScope s_is_game) (by decide +kernel)) (fun _ _ _ _ _ => (pg_name (i := 3) sc_is_game.nd rfl (Or.inl rfl))) (fun _ _ _ _ _ => pts_nil) (fun _ _ _ _ _ => (pe_cmpR (Dat.inQ (K := K) rfl) (pv 3) (pe_glob (v := .ref T.p_OWNERS) rfl T.c_OWNERS rfl) rfl))) pa_nil))))))))
      (pss_one (ps_ret pe_bl))
      pss_nil)
    (pss_one (ps_ret (pe_callB (Dat.allQ (K := K) rfl rfl) rfl T.b_all bt_all (pa_cons (pe_lc2 (own := [("moves", 5), ("weight", 4), ("_", 6)]) (vs1 := [4, 6]) (g := (gName 5)) (g1 := (gTup K 2 (gCons (gName 4) (gCons (gName 6) gNil)))) (tt := tYes) (tt1 := tYes) rfl sc_is_game.nd (Dat.piT (K := K) rfl (pv 2)) (blkOk_by (N := N_is_game) (sc := defScope s_is_game) (by decide +kernel)) (by decide) (fun _ _ _ _ _ => (pg_name (i := 5) sc_is_game.nd rfl (Or.inl rfl))) (fun _ _ _ _ _ => pts_nil) (fun _ _ _ _ _ => (Dat.piT (K := K) rfl (pv 5))) (fun _ _ _ _ _ => (Dat.pgT (K := K) (n := 2) rfl rfl (pgs_cons (pg_name (i := 4) sc_is_game.nd rfl (Or.inl rfl)) (pgs_cons (pg_name (i := 6) sc_is_game.nd rfl (Or.inl rfl)) pgs_nil)))) (fun _ _ _ _ _ => pts_nil) (fun _ _ _ _ _ => (pe_cmpR op_le (pe_callB Dat.cl_abs rfl T.b_abs bt_abs (pa_cons (pv 4) pa_nil)) (pe_glob (v := .int 50) rfl T.c_MOST_GAME_WEIGHT ⟨_, rfl⟩) (nomark _)))) pa_nil))))))), ?_⟩
  rintro as Ω P ⟨os, W, rfl, ⟨⟨h1, h2, h3⟩, ho⟩, h⟩
  refine s_seq (s_ifB (b := !(true && (true && true))) (t_notB (t_andB (t_ofB ?_) fun _ => t_andB (t_ofB ?_) fun _ => t_ofB ?_)) nofun fun _ => s_next ?_)
  · exact e_call (a_cons (e_var rfl (a_nil ⟨_, rfl, rfl, rfl⟩)))
  · exact e_cb (a_cons (e_op (e_var rfl (e_int (r_ixT rfl (a_cons (e_ty (a_nil (c_isi kit_tuple ⟨rfl, rfl⟩)))))))))
  · exact e_call (a_cons (e_op (e_var rfl (e_int (r_ixT rfl (a_nil ⟨W, rfl, ⟨h1, h2, h3⟩, rfl, rfl⟩))))))
  refine s_seq (s_asgG (e_var rfl (g_tup rfl (gs_cons (g_name ⟨rfl, gs_cons (g_name ⟨rfl, gs_nil ?_⟩)⟩)))))
  refine s_seq (s_ifB (b := false || (!true || !true)) (t_orB (t_ofC ?_) fun _ => t_orB (t_ofC ?_) fun _ => t_notB (t_ofB ?_)) nofun fun _ => s_next ?_)
  · exact e_op (e_cb (a_cons (e_var rfl (a_nil (c_lenT (e_int (r_I0b ⟨by rw [List.length_map, decide_eq_false (by omega)], rfl⟩)))))))
  · refine e_op (e_cb (a_cons (e_var rfl (a_nil (c_lenT (e_cb (a_cons (e_var rfl (a_nil (c_lenT (r_ne rfl ⟨?_, rfl⟩)))))))))))
    simp [eqD, ho]
  · refine e_cb (a_cons (e_lcM os (fun b => .dat (owD b)) (fun _ => .bool true) (gn_name (by decide)) (by omega) ?_))
    refine i_tup (e_var rfl ⟨_, rfl, ?_, fun b Ω' hb _ => g_name ⟨rfl, e_op (e_var rfl (e_K T.v_OWNERS (r_inT (by cases b <;> rfl) rfl ⟨rfl, ?_⟩)))⟩, a_nil (c_allM ⟨?_, rfl⟩)⟩)
    · rw [List.map_map]
      rfl
    · exact congrArg (fun z => Av.dat (PyData.bool z)) (own_in b)
    · rw [List.all_eq_true.mpr fun _ _ => rfl]
  refine s_ret (e_cb (a_cons (e_lc2M W (fun n => .dat (ndD n)) (fun n => n) (fun m => .dat (mvD m)) (fun _ _ => .bool true) (gn_name (by decide)) (gn_tup (gns_cons (gn_name (by decide)) (gns_cons (gn_name (by decide)) gns_nil))) (by omega) (fun n hn => Nat.le_trans (h3 n hn).2.1 (by decide)) ?_)))
  refine i_tup (e_var rfl ⟨_, rfl, ?_, fun n Ω' hn _ => g_name ⟨rfl, i_tup (e_var rfl ⟨_, rfl, rfl, ?_, fun m Ω4 hm _ => g_tup rfl (gs_cons (g_name ⟨rfl, gs_cons (g_name ⟨rfl, gs_nil ⟨rfl, ?_⟩⟩)⟩))⟩)⟩, a_nil ?_⟩)
  · rw [List.map_map]
    rfl
  · rw [List.map_map]
    rfl
  · have hv := (h3 n hn).2.2 m hm
    refine e_op (e_cb (a_cons (e_var rfl (a_nil (c_abs (e_int (r_I0b ⟨rfl, ?_⟩)))))))
    have : (if m.1 < 0 then -m.1 else m.1) ≤ 50 := by split <;> (have := hv.1; have := hv.2.1; omega)
    rw [decide_eq_true this]
  · have e : (W.flatMap fun n => n.map fun _ => PyData.bool true) = (W.flatMap fun n => n.map fun _ => true).map PyData.bool := by
      rw [List.map_flatMap]
      simp only [List.map_map]
      rfl
    rw [e]
    refine c_all ?_
    have : (W.flatMap fun n => n.map fun _ => true).all id = true := List.all_eq_true.mpr fun x hx => by
      obtain ⟨n, _, hx⟩ := List.mem_flatMap.mp hx
      obtain ⟨_, _, rfl⟩ := List.mem_map.mp hx
      rfl
    rw [this]
    exact h
abbrev spChkG : ASp := fun as Ω P => ∃ (os : List Bool) (W : Wb), as = [.dat (gmD os W)] ∧ GmOk os W ∧ P (.dat .none) Ω
theorem ok_check_game (T : Top K mg) : FnOk P w K mg base CX0 7 T.f_check_game T.d_check_game ["thing"] (spA K spChkG) := by
  have G_is_game : FnOk P w K mg base CX0 6 T.f_is_game T.d_is_game ["thing"] (spA K spGm) := ok_is_game T
  refine fnA_ok T.D_check_game.F sc_check_game (fun as Ω P ⟨os, W, e, _⟩ => by subst e; rfl) (fun cdv A outer s H E hr => ?_)
  refine ⟨_, (pss_one (ps_if (pt_not (pt_val (pe_call G_is_game (hr.mono (by omega)) rfl T.D_is_game.g T.D_is_game.F.kp T.D_is_game.b .nil pass0 (pa_cons (pv 0) pa_nil))))
      (pss_one ps_dead)
      pss_nil)), ?_⟩
  rintro as Ω P ⟨os, W, rfl, hg, h⟩
  exact s_ifB (b := !true) (t_notB (t_ofB (e_call (a_cons (e_var rfl (a_nil ⟨os, W, rfl, hg, rfl, rfl⟩)))))) nofun fun _ => s_next h
abbrev spChkO : ASp := fun as Ω P => ∃ b : Bool, as = [.dat (owD b)] ∧ P (.dat .none) Ω
theorem ok_check_owner (T : Top K mg) : FnOk P w K mg base CX0 1 T.f_check_owner T.d_check_owner ["thing"] (spA K spChkO) := by
  refine fnA_ok T.D_check_owner.F sc_check_owner (fun as Ω P ⟨b, e, _⟩ => by subst e; rfl) (fun cdv A outer s H E hr => ?_)
  refine ⟨_, (pss_one (ps_if (pt_cmpR (Dat.niQ (K := K) rfl) (pv 0) (pe_glob (v := .ref T.p_OWNERS) rfl T.c_OWNERS rfl) rfl)
      (pss_one ps_dead)
      pss_nil)), ?_⟩
  rintro as Ω P ⟨b, rfl, h⟩
  refine s_ifB (b := false) (t_ofC (e_op (e_var rfl (e_K T.v_OWNERS (r_inT (by cases b <;> rfl) rfl ⟨?_, rfl⟩))))) nofun fun _ => s_next h
  exact congrArg (fun z => Av.dat (PyData.bool (!z))) (own_in b)
abbrev spChkC : ASp := fun as Ω P => ∃ n lo hi : Int, as = [.dat (.int n), .dat (.int lo), .dat (.int hi)] ∧ lo ≤ n ∧ n ≤ hi ∧ P (.dat .none) Ω
theorem ok_check_count (T : Top K mg) : FnOk P w K mg base CX0 3 T.f_check_count T.d_check_count ["thing", "low", "high"] (spA K spChkC) := by
  have G_is_whole_in : FnOk P w K mg base CX0 2 T.f_is_whole_in T.d_is_whole_in ["thing", "low", "high"] (spA K spIn) := ok_is_whole_in T
  refine fnA_ok T.D_check_count.F sc_check_count (fun as Ω P ⟨n, lo, hi, e, _⟩ => by subst e; rfl) (fun cdv A outer s H E hr => ?_)
  refine ⟨_, (pss_one (ps_if (pt_not (pt_val (pe_call G_is_whole_in (hr.mono (by omega)) rfl T.D_is_whole_in.g T.D_is_whole_in.F.kp T.D_is_whole_in.b .nil pass0 (pa_cons (pv 0) (pa_cons (pv 1) (pa_cons (pv 2) pa_nil))))))
      (pss_one ps_dead)
      pss_nil)), ?_⟩
  rintro as Ω P ⟨n, lo, hi, rfl, h1, h2, h⟩
  exact s_ifB (b := !true) (t_notB (t_ofB (e_call (a_cons (e_var rfl (a_cons (e_var rfl (a_cons (e_var rfl (a_nil ⟨_, _, _, rfl, by rw [inD_of h1 h2], rfl⟩)))))))))) nofun fun _ => s_next h
/-! ### ways -/
def wyD : Option Nat → PyData
  | none => .none
  | some i => .int (i : Nat)
abbrev Wy := List (Option Nat)
def WyOk (side : Bool) (os : List Bool) (W : Wb) (ws : Wy) : Prop := ws.length = W.length ∧ ∀ k, k < W.length → if os.getD k true = side then ∃ i, ws.getD k none = some i ∧ i < (W.getD k []).length else ws.getD k none = none
abbrev spWay : ASp := fun as Ω P => ∃ (side : Bool) (os : List Bool) (W : Wb) (ws : Wy), as = [.dat (gmD os W), .dat (owD side), .dat (.tuple (ws.map wyD))] ∧ GmOk os W ∧ WyOk side os W ws ∧ P (.dat (.bool true)) Ω
theorem ok_is_way (T : Top K mg) : FnOk P w K mg base CX0 3 T.f_is_way T.d_is_way ["game", "owner", "thing"] (spA K spWay) := by
  have G_is_whole_in : FnOk P w K mg base CX0 2 T.f_is_whole_in T.d_is_whole_in ["thing", "low", "high"] (spA K spIn) := ok_is_whole_in T
  refine fnA_ok T.D_is_way.F sc_is_way (fun as Ω P ⟨side, os, W, ws, e, _⟩ => by subst e; rfl) (fun cdv A outer s H E hr => ?_)
  refine ⟨_, (pss_cons (ps_asg (pv 0) (Dat.pgT (K := K) (n := 2) rfl rfl (pgs_cons (pg_name (i := 3) sc_is_way.nd rfl (.inl rfl)) (pgs_cons (pg_name (i := 4) sc_is_way.nd rfl (.inl rfl)) pgs_nil))))
    (pss_cons (ps_if (pt_not (PW.pt (pw_and (pt_val (pe_callB (Dat.isiQ (K := K) rfl) rfl T.b_isinstance bt_isinstance (pa_cons (pv 2) (pa_cons (pe_bltn (v := .ty "tuple") rfl T.b_tuple bt_tuple rfl) pa_nil)))) (pw_and1 (pt_cmpR op_eq (pe_callB (Dat.lenQ (K := K) rfl) rfl T.b_len bt_len (pa_cons (pv 2) pa_nil)) (pe_callB (Dat.lenQ (K := K) rfl) rfl T.b_len bt_len (pa_cons (pv 4) pa_nil)) (nomark _))))))
      (pss_one (ps_ret pe_bl))
      pss_nil)
    (pss_one (ps_ret (pe_callB (Dat.allQ (K := K) rfl rfl) rfl T.b_all bt_all (pa_cons (pe_lc (own := [("index", 6), ("mine", 5), ("moves", 7)]) (g := (gTup K 3 (gCons (gName 6) (gCons (gName 5) (gCons (gName 7) gNil))))) (tt := tYes) rfl sc_is_way.nd (Dat.zip3Q (K := K) rfl rfl T.b_zip (pa_cons (pv 2) (pa_cons (pv 3) (pa_cons (pv 4) pa_nil)))) (blkOk_by (N := N_is_way) (sc := defScope s_is_way) (by decide +kernel)) (fun _ _ _ _ _ => (Dat.pgT (K := K) (n := 3) rfl rfl (pgs_cons (pg_name (i := 6) sc_is_way.nd rfl (Or.inl rfl)) (pgs_cons (pg_name (i := 5) sc_is_way.nd rfl (Or.inl rfl)) (pgs_cons (pg_name (i := 7) sc_is_way.nd rfl (Or.inl rfl)) pgs_nil))))) (fun _ _ _ _ _ => pts_nil) (fun _ _ _ _ _ => (pe_ifExp (pt_cmpR op_eq (pv 5) (pv 1) (nomark _)) (pe_call G_is_whole_in (hr.mono (by omega)) rfl T.D_is_whole_in.g T.D_is_whole_in.F.kp T.D_is_whole_in.b .nil pass0 (pa_cons (pv 6) (pa_cons pe_int (pa_cons (pe_op op_sub (pe_callB (Dat.lenQ (K := K) rfl) rfl T.b_len bt_len (pa_cons (pv 7) pa_nil)) pe_int) pa_nil)))) (pe_cmpR Dat.op_isNo (pv 6) pe_non (nomark _))))) pa_nil)))))), ?_⟩
  rintro as Ω P ⟨side, os, W, ws, rfl, ⟨⟨h1, h2, h3⟩, ho⟩, ⟨hl, hw⟩, h⟩
  refine s_seq (s_asgG (e_var rfl (g_tup rfl (gs_cons (g_name ⟨rfl, gs_cons (g_name ⟨rfl, gs_nil ?_⟩)⟩)))))
  refine s_seq (s_ifB (b := !(true && true)) (t_notB (t_andB (t_ofB ?_) fun _ => t_ofC ?_)) nofun fun _ => s_next ?_)
  · exact e_cb (a_cons (e_var rfl (a_cons (e_ty (a_nil (c_isi kit_tuple ⟨rfl, rfl⟩))))))
  · refine e_op (e_cb (a_cons (e_var rfl (a_nil (c_lenT (e_cb (a_cons (e_var rfl (a_nil (c_lenT (r_eq rfl ⟨?_, rfl⟩)))))))))))
    simp [eqD, hl]
  refine s_ret (e_cb (a_cons (e_lcM (List.range W.length) (fun k => .dat (.tuple [(ws.map wyD).getD k .none, (os.map owD).getD k .none, (W.map ndD).getD k .none])) (fun _ => .bool true) (gn_tup (gns_cons (gn_name (by decide)) (gns_cons (gn_name (by decide)) (gns_cons (gn_name (by decide)) gns_nil)))) (by rw [List.length_range]; omega) ?_)))
  refine Dat.i_zip3 (a_cons (e_var rfl (a_cons (e_var rfl (a_cons (e_var rfl (a_nil ⟨_, _, _, rfl, by simp; omega, by simp; omega, ⟨?_, fun k Ω' hk _ => ?_, a_nil (c_allM ?_)⟩⟩)))))))
  · unfold zip3A
    rw [List.length_map, hl]
  · have hk' : k < W.length := List.mem_range.mp hk
    rw [getD_lt none (by omega), getD_lt true (by omega), getD_lt [] (by omega)]
    refine g_tup rfl (gs_cons (g_name ⟨rfl, gs_cons (g_name ⟨rfl, gs_cons (g_name ⟨rfl, gs_nil ⟨rfl, ?_⟩⟩)⟩)⟩))
    have hwk := hw k hk'
    refine e_if (t_test (e_op (e_var rfl (e_var rfl (r_eq (by cases os.getD k true <;> cases side <;> rfl) ⟨_, rfl, fun z => ?_, fun z => ?_⟩)))))
    · rw [ow_eq] at z
      rw [if_pos (by simpa using z)] at hwk
      obtain ⟨i, ei, hi⟩ := hwk
      rw [ei]
      exact e_call (a_cons (e_var rfl (a_cons (e_int (a_cons (e_op (e_cb (a_cons (e_var rfl (a_nil (c_lenT (e_int (r_I0i (a_nil ⟨_, _, _, rfl, rfl, by rw [List.length_map]; show Av.dat (.bool (inD 0 _ (.int (i : Nat)))) = _; rw [inD_of (by omega) (by omega)]⟩))))))))))))))
    · rw [ow_eq] at z
      rw [if_neg (by simpa using z)] at hwk
      rw [hwk]
      exact e_op (e_var rfl (e_non (r_isN ⟨rfl, rfl⟩)))
  · rw [List.all_eq_true.mpr fun _ _ => rfl]
    exact h
def heldN (n : Nd) : Option Nat → Nd
  | none => n
  | some i => [n.getD i (0, 0)]
def heldW (W : Wb) (ws : Wy) : Wb := (List.range W.length).map fun k => heldN (W.getD k []) (ws.getD k none)
def WyIn (W : Wb) (ws : Wy) : Prop := ws.length = W.length ∧ ∀ k, k < W.length → ∀ i, ws.getD k none = some i → i < (W.getD k []).length
theorem WyOk.in {side : Bool} {os : List Bool} {W : Wb} {ws : Wy} (h : WyOk side os W ws) : WyIn W ws := ⟨h.1, fun k hk i e => by
  have := h.2 k hk
  split at this
  · obtain ⟨j, ej, hj⟩ := this
    rw [e] at ej
    cases ej
    exact hj
  · rw [e] at this
    cases this⟩
theorem nd_held {n : Nd} {i : Nat} (h : i < n.length) : atI (n.map mvD) (i : Int) = some (mvD (n.getD i (0, 0))) := by
  refine atI_nat' ?_
  rw [List.getElem?_map, List.getD_eq_getElem?_getD, List.getElem?_eq_getElem h]
  rfl
abbrev spHw : ASp := fun as Ω P => ∃ (os : List Bool) (W : Wb) (ws : Wy), as = [.dat (gmD os W), .dat (.tuple (ws.map wyD))] ∧ GmOk os W ∧ WyIn W ws ∧ P (.dat (wbD (heldW W ws))) Ω
theorem ok_held_web (T : Top K mg) : FnOk P w K mg base CX0 1 T.f_held_web T.d_held_web ["game", "way"] (spA K spHw) := by
  refine fnA_ok T.D_held_web.F sc_held_web (fun as Ω P ⟨os, W, ws, e, _⟩ => by subst e; rfl) (fun cdv A outer s H E hr => ?_)
  refine ⟨_, (pss_one (ps_ret (Dat.pe_tupleK (K := K) rfl rfl T.b_tuple (pe_lc (own := [("index", 2), ("moves", 3)]) (g := (gTup K 2 (gCons (gName 2) (gCons (gName 3) gNil)))) (tt := tYes) rfl sc_held_web.nd (Dat.zipQ (K := K) rfl rfl T.b_zip (pa_cons (pv 1) (pa_cons (pe_ix (Dat.ixT (K := K) rfl) (pv 0) pe_int (fun _ _ => rfl)) pa_nil))) (blkOk_by (N := N_held_web) (sc := defScope s_held_web) (by decide +kernel)) (fun _ _ _ _ _ => (Dat.pgT (K := K) (n := 2) rfl rfl (pgs_cons (pg_name (i := 2) sc_held_web.nd rfl (Or.inl rfl)) (pgs_cons (pg_name (i := 3) sc_held_web.nd rfl (Or.inl rfl)) pgs_nil)))) (fun _ _ _ _ _ => pts_nil) (fun _ _ _ _ _ => (pe_ifExp (pt_cmpR Dat.op_isNo (pv 2) pe_non (nomark _)) (pv 3) (pe_tup (pa_cons (pe_ix (Dat.ixT (K := K) rfl) (pv 3) (pv 2) (fun _ _ => rfl)) pa_nil)))))))), ?_⟩
  rintro as Ω P ⟨os, W, ws, rfl, ⟨⟨h1, h2, h3⟩, ho⟩, ⟨hl, hw⟩, h⟩
  refine s_ret (e_then (e_lcM (List.range W.length) (fun k => .dat (.tuple [(ws.map wyD).getD k .none, (W.map ndD).getD k .none])) (fun k => ndD (heldN (W.getD k []) (ws.getD k none))) (gn_tup (gns_cons (gn_name (by decide)) (gns_cons (gn_name (by decide)) gns_nil))) (by rw [List.length_range]; omega) ?_))
  refine Dat.i_zipT (a_cons (e_var rfl (a_cons (e_op (e_var rfl (e_int (r_ixT rfl (a_nil ⟨_, _, rfl, by simp; omega, ⟨?_, fun k Ω' hk _ => ?_, r_tupL ?_⟩⟩))))))))
  · unfold zipA
    rw [List.length_map, hl]
  · have hk' : k < W.length := List.mem_range.mp hk
    rw [getD_lt none (by omega), getD_lt [] (by omega)]
    refine g_tup rfl (gs_cons (g_name ⟨rfl, gs_cons (g_name ⟨rfl, gs_nil ⟨rfl, ?_⟩⟩)⟩))
    have hwk := hw k hk'
    refine e_if (t_test (e_op (e_var rfl (e_non (r_isN ⟨_, rfl, fun z => ?_, fun z => ?_⟩)))))
    · cases ew : ws.getD k none with
      | none => exact e_var rfl ⟨rfl, rfl⟩
      | some i => rw [ew] at z; cases z
    · cases ew : ws.getD k none with
      | none => rw [ew] at z; cases z
      | some i => exact e_tupD (a_cons (e_op (e_var rfl (e_var rfl (r_ixT (nd_held (hwk i ew)) (a_nil ⟨_, .cons .nil, rfl, rfl, rfl⟩))))))
  · have : wbD (heldW W ws) = .tuple ((List.range W.length).map fun k => ndD (heldN (W.getD k []) (ws.getD k none))) := by
      unfold wbD heldW
      rw [List.map_map]
      rfl
    rw [← this]
    exact h
abbrev spHeld : ASp := fun as Ω P => ∃ (side : Bool) (os : List Bool) (W : Wb) (ws : Wy), as = [.dat (gmD os W), .dat (owD side), .dat (.tuple (ws.map wyD))] ∧ GmOk os W ∧ WyOk side os W ws ∧ P (.dat (wbD (heldW W ws))) Ω
theorem ok_held (T : Top K mg) : FnOk P w K mg base CX0 8 T.f_held T.d_held ["game", "owner", "way"] (spA K spHeld) := by
  have G_check_game : FnOk P w K mg base CX0 7 T.f_check_game T.d_check_game ["thing"] (spA K spChkG) := ok_check_game T
  have G_check_owner : FnOk P w K mg base CX0 1 T.f_check_owner T.d_check_owner ["thing"] (spA K spChkO) := ok_check_owner T
  have G_is_way : FnOk P w K mg base CX0 3 T.f_is_way T.d_is_way ["game", "owner", "thing"] (spA K spWay) := ok_is_way T
  have G_held_web : FnOk P w K mg base CX0 1 T.f_held_web T.d_held_web ["game", "way"] (spA K spHw) := ok_held_web T
  refine fnA_ok T.D_held.F sc_held (fun as Ω P ⟨side, os, W, ws, e, _⟩ => by subst e; rfl) (fun cdv A outer s H E hr => ?_)
  refine ⟨_, (pss_cons (ps_expr (pe_call G_check_game (hr.mono (by omega)) rfl T.D_check_game.g T.D_check_game.F.kp T.D_check_game.b .nil pass0 (pa_cons (pv 0) pa_nil)))
    (pss_cons (ps_expr (pe_call G_check_owner (hr.mono (by omega)) rfl T.D_check_owner.g T.D_check_owner.F.kp T.D_check_owner.b .nil pass0 (pa_cons (pv 1) pa_nil)))
    (pss_cons (ps_if (pt_not (pt_val (pe_call G_is_way (hr.mono (by omega)) rfl T.D_is_way.g T.D_is_way.F.kp T.D_is_way.b .nil pass0 (pa_cons (pv 0) (pa_cons (pv 1) (pa_cons (pv 2) pa_nil))))))
      (pss_one ps_dead)
      pss_nil)
    (pss_one (ps_ret (pe_call G_held_web (hr.mono (by omega)) rfl T.D_held_web.g T.D_held_web.F.kp T.D_held_web.b .nil pass0 (pa_cons (pv 0) (pa_cons (pv 2) pa_nil)))))))), ?_⟩
  rintro as Ω P ⟨side, os, W, ws, rfl, hg, hw, h⟩
  refine s_seq (s_drop (e_call (a_cons (e_var rfl (a_nil ⟨os, W, rfl, hg, ?_⟩)))))
  refine s_seq (s_drop (e_call (a_cons (e_var rfl (a_nil ⟨side, rfl, ?_⟩)))))
  refine s_seq (s_ifB (b := !true) (t_notB (t_ofB (e_call (a_cons (e_var rfl (a_cons (e_var rfl (a_cons (e_var rfl (a_nil ⟨side, os, W, ws, rfl, hg, hw, rfl, rfl⟩)))))))))) nofun fun _ => s_next ?_)
  exact s_ret (e_call (a_cons (e_var rfl (a_cons (e_var rfl (a_nil ⟨os, W, ws, rfl, hg, hw.in, h⟩))))))
/-! ### games turned -/
abbrev spTg : ASp := fun as Ω P => ∃ (os : List Bool) (W : Wb), as = [.dat (gmD os W)] ∧ GmOk os W ∧ P (.dat (gmD (os.map not) (turnW W))) Ω
theorem ok_turned_game (T : Top K mg) : FnOk P w K mg base CX0 2 T.f_turned_game T.d_turned_game ["game"] (spA K spTg) := by
  have G_turned : FnOk P w K mg base CX0 1 T.f_turned T.d_turned ["web"] (spA K spTw) := ok_turned T
  refine fnA_ok T.D_turned_game.F sc_turned_game (fun as Ω P ⟨os, W, e, _⟩ => by subst e; rfl) (fun cdv A outer s H E hr => ?_)
  refine ⟨_, (pss_cons (ps_asg (pv 0) (Dat.pgT (K := K) (n := 2) rfl rfl (pgs_cons (pg_name (i := 1) sc_turned_game.nd rfl (.inl rfl)) (pgs_cons (pg_name (i := 2) sc_turned_game.nd rfl (.inl rfl)) pgs_nil))))
    (pss_one (ps_ret (pe_tup (pa_cons (Dat.pe_tupleK (K := K) rfl rfl T.b_tuple (pe_lc (own := [("owner", 3)]) (g := (gName 3)) (tt := tYes) rfl sc_turned_game.nd (Dat.piT (K := K) rfl (pv 1)) (blkOk_by (N := N_turned_game) (sc := defScope s_turned_game) (by decide +kernel)) (fun _ _ _ _ _ => (pg_name (i := 3) sc_turned_game.nd rfl (Or.inl rfl))) (fun _ _ _ _ _ => pts_nil) (fun _ _ _ _ _ => (pe_ifExp (pt_cmpR op_eq (pv 3) pe_str (nomark _)) pe_str pe_str)))) (pa_cons (pe_call G_turned (hr.mono (by omega)) rfl T.D_turned.g T.D_turned.F.kp T.D_turned.b .nil pass0 (pa_cons (pv 2) pa_nil)) pa_nil)))))), ?_⟩
  rintro as Ω P ⟨os, W, rfl, hg, h⟩
  obtain ⟨⟨h1, h2, h3⟩, ho⟩ := id hg
  refine s_seq (s_asgG (e_var rfl (g_tup rfl (gs_cons (g_name ⟨rfl, gs_cons (g_name ⟨rfl, gs_nil ?_⟩)⟩)))))
  refine s_ret (e_tupD (a_cons (e_then (e_lcM os (fun b => .dat (owD b)) (fun b => owD (!b)) (gn_name (by decide)) (by omega) ?_))))
  refine i_tup (e_var rfl ⟨_, rfl, ?_, fun b Ω' hb _ => g_name ⟨rfl, ?_⟩, r_tupL ?_⟩)
  · rw [List.map_map]
    rfl
  · refine e_if (t_test (e_op (e_var rfl (e_str (r_eq (by cases b <;> rfl) ⟨_, rfl, fun z => e_str ⟨rfl, ?_⟩, fun z => e_str ⟨rfl, ?_⟩⟩)))))
    · cases b
      · exact absurd z (by decide)
      · rfl
    · cases b
      · rfl
      · exact absurd z (by decide)
  · refine a_cons (e_call (a_cons (e_var rfl (a_nil ⟨W, rfl, ⟨h1, h2, h3⟩, a_nil ⟨_, .cons (.cons .nil), rfl, ?_⟩⟩))))
    have : gmD (os.map not) (turnW W) = .tuple [.tuple (os.map fun b => owD (!b)), wbD (turnW W)] := by
      unfold gmD
      rw [List.map_map]
      rfl
    rw [← this]
    exact h
theorem ok_game_turned (T : Top K mg) : FnOk P w K mg base CX0 8 T.f_game_turned T.d_game_turned ["game"] (spA K spTg) := by
  have G_check_game : FnOk P w K mg base CX0 7 T.f_check_game T.d_check_game ["thing"] (spA K spChkG) := ok_check_game T
  have G_turned_game : FnOk P w K mg base CX0 2 T.f_turned_game T.d_turned_game ["game"] (spA K spTg) := ok_turned_game T
  refine fnA_ok T.D_game_turned.F sc_game_turned (fun as Ω P ⟨os, W, e, _⟩ => by subst e; rfl) (fun cdv A outer s H E hr => ?_)
  refine ⟨_, (pss_cons (ps_expr (pe_call G_check_game (hr.mono (by omega)) rfl T.D_check_game.g T.D_check_game.F.kp T.D_check_game.b .nil pass0 (pa_cons (pv 0) pa_nil)))
    (pss_one (ps_ret (pe_call G_turned_game (hr.mono (by omega)) rfl T.D_turned_game.g T.D_turned_game.F.kp T.D_turned_game.b .nil pass0 (pa_cons (pv 0) pa_nil))))), ?_⟩
  rintro as Ω P ⟨os, W, rfl, hg, h⟩
  exact s_seq (s_drop (e_call (a_cons (e_var rfl (a_nil ⟨os, W, rfl, hg, s_ret (e_call (a_cons (e_var rfl (a_nil ⟨os, W, rfl, hg, h⟩))))⟩)))))
end
end K14

set_option Elab.async false
set_option linter.all false
set_option maxRecDepth 100000
set_option maxHeartbeats 1000000
namespace K14
open PySem PySem.Spec PyProof.Rows L2 Dat
local macro_rules | `(tactic| trivial) => `(tactic| (first
  | (with_reducible refine s_seq ?_)
  | (with_reducible refine s_asg ?_)
  | (with_reducible refine s_ret ?_)
  | (with_reducible refine s_drop ?_)
  | (with_reducible refine s_next ?_)
  | (with_reducible refine s_retN ?_)
  | (with_reducible refine s_brk ?_)
  | (with_reducible refine s_cont ?_)
  | (with_reducible refine s_if ?_)
  | (with_reducible refine e_int ?_)
  | (with_reducible refine e_str ?_)
  | (with_reducible refine e_bl ?_)
  | (with_reducible refine e_non ?_)
  | (with_reducible refine e_ty ?_)
  | (with_reducible refine e_tupD ?_)
  | (with_reducible refine e_lstD ?_)
  | (with_reducible refine e_op ?_)
  | (with_reducible refine e_un ?_)
  | (with_reducible refine e_then ?_)
  | (with_reducible refine e_cb ?_)
  | (with_reducible refine e_call ?_)
  | (with_reducible refine e_if ?_)
  | (with_reducible refine e_chain ?_)
  | (with_reducible refine e_andV ?_)
  | (with_reducible refine e_orV ?_)
  | (with_reducible refine e_notV ?_)
  | (with_reducible refine a_cons ?_)
  | (with_reducible refine a_nil ?_)
  | (with_reducible refine t_test ?_)
  | (with_reducible refine t_B ?_)
  | (with_reducible refine t_not ?_)
  | (with_reducible refine t_and ?_)
  | (with_reducible refine t_or ?_)
  | (with_reducible refine r_I0i ?_)
  | (with_reducible refine r_I0b ?_)
  | (with_reducible refine r_neg ?_)
  | (with_reducible refine r_isN ?_)
  | (with_reducible refine r_notN ?_)
  | (with_reducible refine c_lenT ?_)
  | (with_reducible refine c_lenL ?_)
  | (with_reducible refine c_intI ?_)
  | (with_reducible refine c_intB ?_)
  | (with_reducible refine c_max2 ?_)
  | (with_reducible refine c_min2 ?_)
  | (with_reducible refine c_abs ?_)
  | (with_reducible refine r_tupL ?_)
  | (with_reducible refine r_tupT ?_)
  | (with_reducible refine c_allM ?_)
  | ((with_reducible apply e_var); (exact rfl))
  | ((with_reducible refine r_eq ?_ ?_); (exact rfl))
  | ((with_reducible refine r_ne ?_ ?_); (exact rfl))
  | (with_reducible refine c_isi kit_int ?_)
  | (with_reducible refine c_isi kit_bool ?_)
  | (with_reducible refine c_isi kit_tuple ?_)
  | (with_reducible refine c_isi kit_list ?_)
  | (with_reducible refine c_isi kit_str ?_)
  | ((with_reducible apply r_ixT); (exact rfl))
  | ((with_reducible apply dats_pack); (iterate 40 (first | exact Dats.nil | apply Dats.cons | skip)); (exact rfl))
  | (with_reducible refine s_asgG ?_) | (with_reducible refine g_name ?_) | ((with_reducible refine g_tup ?_ ?_); (exact rfl)) | (refine gs_nil ?_) | (refine gs_cons ?_) | (with_reducible refine ⟨rfl, ?_⟩)
  | (refine ⟨_, rfl, ?_⟩) | (refine ⟨_, _, rfl, ?_⟩) | (refine ⟨_, _, _, rfl, ?_⟩) | (with_reducible refine ⟨fun _ => ?_, fun _ => ?_⟩) | fail))
/-! ### lines -/
def minL : List Int → Int
  | [] => 0
  | [a] => a
  | a :: b :: r => if a ≤ minL (b :: r) then a else minL (b :: r)
def maxL : List Int → Int
  | [] => 0
  | [a] => a
  | a :: b :: r => if maxL (b :: r) ≤ a then a else maxL (b :: r)
theorem minL_spec : ∀ {ns : List Int}, ns ≠ [] → minL ns ∈ ns ∧ ∀ y ∈ ns, minL ns ≤ y
  | [], h => absurd rfl h
  | [a], _ => ⟨by simp [minL], fun y hy => by rw [List.mem_singleton.mp hy]; exact Int.le_refl _⟩
  | a :: b :: r, _ => by
    obtain ⟨h1, h2⟩ := minL_spec (ns := b :: r) (by simp)
    by_cases c : a ≤ minL (b :: r)
    · have e : minL (a :: b :: r) = a := by rw [minL, if_pos c]
      rw [e]
      exact ⟨by simp, fun y hy => by
        rcases List.mem_cons.mp hy with rfl | hy
        · exact Int.le_refl _
        · exact Int.le_trans c (h2 y hy)⟩
    · have e : minL (a :: b :: r) = minL (b :: r) := by rw [minL, if_neg c]
      rw [e]
      exact ⟨List.mem_cons_of_mem _ h1, fun y hy => by
        rcases List.mem_cons.mp hy with rfl | hy
        · omega
        · exact h2 y hy⟩
theorem maxL_spec : ∀ {ns : List Int}, ns ≠ [] → maxL ns ∈ ns ∧ ∀ y ∈ ns, y ≤ maxL ns
  | [], h => absurd rfl h
  | [a], _ => ⟨by simp [maxL], fun y hy => by rw [List.mem_singleton.mp hy]; exact Int.le_refl _⟩
  | a :: b :: r, _ => by
    obtain ⟨h1, h2⟩ := maxL_spec (ns := b :: r) (by simp)
    by_cases c : maxL (b :: r) ≤ a
    · have e : maxL (a :: b :: r) = a := by rw [maxL, if_pos c]
      rw [e]
      exact ⟨by simp, fun y hy => by
        rcases List.mem_cons.mp hy with rfl | hy
        · exact Int.le_refl _
        · exact Int.le_trans (h2 y hy) c⟩
    · have e : maxL (a :: b :: r) = maxL (b :: r) := by rw [maxL, if_neg c]
      rw [e]
      exact ⟨List.mem_cons_of_mem _ h1, fun y hy => by
        rcases List.mem_cons.mp hy with rfl | hy
        · omega
        · exact h2 y hy⟩
theorem minL_eq {ns : List Int} {m : Int} (h1 : m ∈ ns) (h2 : ∀ y ∈ ns, m ≤ y) : m = minL ns := by
  obtain ⟨g1, g2⟩ := minL_spec (List.ne_nil_of_mem h1)
  have := h2 _ g1
  have := g2 _ h1
  omega
theorem maxL_eq {ns : List Int} {m : Int} (h1 : m ∈ ns) (h2 : ∀ y ∈ ns, y ≤ m) : m = maxL ns := by
  obtain ⟨g1, g2⟩ := maxL_spec (List.ne_nil_of_mem h1)
  have := h2 _ g1
  have := g2 _ h1
  omega
def best (b : Bool) (ns : List Int) : Int := if b then minL ns else maxL ns
theorem best_mem {b : Bool} {ns : List Int} (h : ns ≠ []) : best b ns ∈ ns := by
  cases b
  · exact (maxL_spec h).1
  · exact (minL_spec h).1
def sumM (l : List Int) (m : Mv) : Int := m.1 + l.getD m.2.toNat 0
def stepL (os : List Bool) (W : Wb) (l : List Int) : List Int := (List.range W.length).map fun k => best (os.getD k true) ((W.getD k []).map (sumM l))
def linesF (os : List Bool) (W : Wb) : Nat → List Int
  | 0 => List.replicate W.length 0
  | n + 1 => stepL os W (linesF os W n)
theorem lines_len (os : List Bool) (W : Wb) : ∀ n, (linesF os W n).length = W.length
  | 0 => by simp [linesF]
  | n + 1 => by simp [linesF, stepL]
def lineD (l : List Int) : PyData := .tuple (l.map PyData.int)
def linesD (os : List Bool) (W : Wb) (n : Nat) : List PyData := (List.range (n + 1)).map fun j => lineD (linesF os W j)
theorem at_line {l : List Int} {t : Int} (h0 : 0 ≤ t) (h1 : t < l.length) : atI (l.map PyData.int) t = some (.int (l.getD t.toNat 0)) := by
  obtain ⟨j, rfl⟩ : ∃ j : Nat, t = j := ⟨t.toNat, (Int.toNat_of_nonneg h0).symm⟩
  refine atI_nat' ?_
  rw [List.getElem?_map, List.getD_eq_getElem?_getD, Int.toNat_natCast, List.getElem?_eq_getElem (by omega)]
  rfl
theorem at_last {β : Type} (f : Nat → β) (i : Nat) : atI ((List.range (i + 1)).map f) (-1) = some (f i) := by
  unfold atI ixN
  rw [List.length_map, List.length_range, if_neg (by decide), if_pos (by omega)]
  show ((List.range (i + 1)).map f)[(-1 + ((i + 1 : Nat) : Int)).toNat]? = _
  rw [show (-1 + ((i + 1 : Nat) : Int)).toNat = i by omega, List.getElem?_map, List.getElem?_range (by omega)]
  rfl
theorem at_rng {β : Type} (f : Nat → β) {n i : Nat} (h : i < n) : atI ((List.range n).map f) (i : Int) = some (f i) := by
  refine atI_nat' ?_
  rw [List.getElem?_map, List.getElem?_range h]
  rfl
section
variable {P : Program} {w : World} {K : PySem.W.Frag} {mg : Str → Option Value} {base : Heap}
theorem c_minM {α : Type} {Ω : AH} {P : Av → AH → Prop} {xs : List α} {f : α → Int} (ne : xs ≠ []) (h : P (.dat (.int (minL (xs.map f)))) Ω) : RCW K (rMin K) [.dat (.list (xs.map fun x => .int (f x)))] Ω P := by
  have e : xs.map (fun x => PyData.int (f x)) = (xs.map f).map PyData.int := by
    rw [List.map_map]
    rfl
  rw [e]
  exact c_min (by rw [List.length_map]; exact List.length_pos_iff.mpr ne) fun m h1 h2 => by rw [minL_eq h1 h2]; exact h
theorem c_maxM {α : Type} {Ω : AH} {P : Av → AH → Prop} {xs : List α} {f : α → Int} (ne : xs ≠ []) (h : P (.dat (.int (maxL (xs.map f)))) Ω) : RCW K (rMax K) [.dat (.list (xs.map fun x => .int (f x)))] Ω P := by
  have e : xs.map (fun x => PyData.int (f x)) = (xs.map f).map PyData.int := by
    rw [List.map_map]
    rfl
  rw [e]
  exact c_max (by rw [List.length_map]; exact List.length_pos_iff.mpr ne) fun m h1 h2 => by rw [maxL_eq h1 h2]; exact h
abbrev spLine : ASp := fun as Ω P => ∃ (os : List Bool) (W : Wb) (l : List Int), as = [.dat (gmD os W), .dat (lineD l)] ∧ GmOk os W ∧ l.length = W.length ∧ P (.dat (lineD (stepL os W l))) Ω
theorem ok_line_left (T : Top K mg) : FnOk P w K mg base CX0 1 T.f_line_left T.d_line_left ["game", "line"] (spA K spLine) := by
  refine fnA_ok T.D_line_left.F sc_line_left (fun as Ω P ⟨os, W, l, e, _⟩ => by subst e; rfl) (fun cdv A outer s H E hr => ?_)
  refine ⟨_, (pss_cons (ps_set (i := 2) sc_line_left.nd rfl (.inl rfl) (pe_lst pa_nil))
    (pss_cons (ps_for PassesOwn.never rfl (Dat.zipQ (K := K) rfl rfl T.b_zip (pa_cons (pe_ix (Dat.ixT (K := K) rfl) (pv 0) pe_int (fun _ _ => rfl)) (pa_cons (pe_ix (Dat.ixT (K := K) rfl) (pv 0) pe_int (fun _ _ => rfl)) pa_nil))) (Dat.pgT (K := K) (n := 2) rfl rfl (pgs_cons (pg_name (i := 3) sc_line_left.nd rfl (.inl rfl)) (pgs_cons (pg_name (i := 4) sc_line_left.nd rfl (.inl rfl)) pgs_nil)))
      (pss_cons (ps_setLc (i := 5) (own := [("weight", 6), ("target", 7)]) (g := (gTup K 2 (gCons (gName 6) (gCons (gName 7) gNil)))) (tt := tYes) rfl sc_line_left.nd rfl rfl (sw_true rfl rfl rfl (by decide +kernel)) (Dat.piT (K := K) rfl (pv 4)) (blkOk_by (N := N_line_left) (sc := defScope s_line_left) (by decide +kernel)) (fun _ _ _ _ _ => (Dat.pgT (K := K) (n := 2) rfl rfl (pgs_cons (pg_name (i := 6) sc_line_left.nd rfl (Or.inl rfl)) (pgs_cons (pg_name (i := 7) sc_line_left.nd rfl (Or.inl rfl)) pgs_nil)))) (fun _ _ _ _ _ => pts_nil) (fun _ _ _ _ _ => (pe_op op_add (pv 6) (pe_ix (Dat.ixT (K := K) rfl) (pv 1) (pv 7) (fun _ _ => rfl)))))
      (pss_one (ps_expr (Dat.appQ (K := K) rfl (pv 2) (pa_cons (pe_ifExp (pt_cmpR op_eq (pv 3) pe_str (nomark _)) (pe_callB (Dat.minQ (K := K) rfl rfl) rfl T.b_min bt_min (pa_cons (pv 5) pa_nil)) (pe_callB (Dat.maxQ (K := K) rfl rfl) rfl T.b_max bt_max (pa_cons (pv 5) pa_nil))) pa_nil))))))
    (pss_one (ps_ret (Dat.pe_tupleK (K := K) rfl rfl T.b_tuple (pv 2)))))), ?_⟩
  rintro as Ω P ⟨os, W, l, rfl, ⟨⟨h1, h2, h3⟩, ho⟩, hl, h⟩
  refine s_seq (s_asg (e_lstP (a_nil ⟨by simp, fun f nf => ?_⟩)))
  refine s_seqM (fun Γ' Ω' => (∃ x y z : Option Av, Γ' = [some (.dat (gmD os W)), some (.dat (lineD l)), some (.ptr f), x, y, z, none, none]) ∧ Ω' = put Ω f (((stepL os W l).map PyData.int).map .dat)) ?_ ?_
  · refine s_for (fun as i Γ' Ω' => as = zipA (os.map owD) (W.map ndD) ∧ (∃ x y z : Option Av, Γ' = [some (.dat (gmD os W)), some (.dat (lineD l)), some (.ptr f), x, y, z, none, none]) ∧ Ω' = put Ω f ((((stepL os W l).take i).map PyData.int).map .dat)) ?_
    refine Dat.i_zipT (a_cons (e_op (e_var rfl (e_int (r_ixT rfl (a_cons (e_op (e_var rfl (e_int (r_ixT rfl (a_nil ⟨_, _, rfl, by simp; omega, ⟨rfl, ⟨none, none, none, rfl⟩, rfl⟩, ?_, ?_⟩)))))))))))
    · rintro i it Γ' Ω' hit ⟨eas, ⟨x, y, z, rfl⟩, rfl⟩
      obtain ⟨hi, rfl⟩ := rng_at hit
      rw [List.length_map] at hi
      rw [getD_lt true hi, getD_lt [] (by omega)]
      have hiW : i < W.length := by omega
      have hn := h3 _ (getD_in [] hiW)
      have hne : W.getD i [] ≠ [] := fun e => by
        have := hn.1
        rw [e] at this
        simp at this
      refine g_tup rfl (gs_cons (g_name ⟨rfl, gs_cons (g_name ⟨rfl, gs_nil ?_⟩)⟩))
      refine s_seq (s_asg (e_lcM (W.getD i []) (fun m => .dat (mvD m)) (fun m => .int (sumM l m)) (gn_tup (gns_cons (gn_name (by decide)) (gns_cons (gn_name (by decide)) gns_nil))) (Nat.le_trans hn.2.1 (by decide)) ?_))
      refine i_tup (e_var rfl ⟨_, rfl, ?_, fun m Ω' hm _ => g_tup rfl (gs_cons (g_name ⟨rfl, gs_cons (g_name ⟨rfl, gs_nil ⟨rfl, ?_⟩⟩)⟩)), ?_⟩)
      · rw [List.map_map]
        rfl
      · have hv := hn.2.2 m hm
        exact e_op (e_var rfl (e_op (e_var rfl (e_var rfl (r_ixT (at_line hv.2.2.1 (by rw [hl]; exact hv.2.2.2)) (r_I0i ⟨rfl, rfl⟩))))))
      refine s_drop (e_app (e_var rfl ⟨f, rfl, ⟨_, put_same⟩, ?_⟩))
      have fin : AW K tNil [some (.dat (gmD os W)), some (.dat (lineD l)), some (.ptr f), some (.dat (owD (os.getD i true))), some (.dat (ndD (W.getD i []))), some (.dat (.list ((W.getD i []).map fun m => .int (sumM l m)))), none, none] (put Ω f ((((stepL os W l).take i).map PyData.int).map .dat)) fun as Ω2 => ∃ b bs, Av.dat (.int (best (os.getD i true) ((W.getD i []).map (sumM l)))) :: as = [b] ∧ Ω2 f = some bs ∧ bs.length < 100000 ∧ (zipA (os.map owD) (W.map ndD) = zipA (os.map owD) (W.map ndD) ∧ (∃ x y z : Option Av, [some (.dat (gmD os W)), some (.dat (lineD l)), some (.ptr f), some (.dat (owD (os.getD i true))), some (.dat (ndD (W.getD i []))), some (.dat (.list ((W.getD i []).map fun m => .int (sumM l m)))), none, none] = [some (.dat (gmD os W)), some (.dat (lineD l)), some (.ptr f), x, y, z, none, none]) ∧ put Ω2 f (bs ++ [b]) = put Ω f ((((stepL os W l).take (i + 1)).map PyData.int).map .dat)) := by
        refine a_nil ⟨_, _, rfl, put_same, ?_, rfl, ⟨_, _, _, rfl⟩, ?_⟩
        · rw [List.length_map, List.length_map, List.length_take]
          omega
        · rw [put_put]
          have es : (stepL os W l)[i]? = some (best (os.getD i true) ((W.getD i []).map (sumM l))) := by
            unfold stepL
            rw [List.getElem?_map, List.getElem?_range hiW]
            rfl
          rw [List.take_add_one, es, List.map_append, List.map_append]
          rfl
      refine a_cons (e_if (t_test (e_op (e_var rfl (e_str (r_eq (by cases os.getD i true <;> rfl) ⟨_, rfl, fun z => ?_, fun z => ?_⟩))))))
      · have eb : os.getD i true = true := by
          cases hb : os.getD i true with
          | true => rfl
          | false => rw [hb] at z; exact absurd z (by decide)
        refine e_cb (a_cons (e_var rfl (a_nil (c_minM hne ?_))))
        have e : minL ((W.getD i []).map (sumM l)) = best (os.getD i true) ((W.getD i []).map (sumM l)) := by rw [eb]; rfl
        rw [e]
        exact fin
      · have eb : os.getD i true = false := by
          cases hb : os.getD i true with
          | false => rfl
          | true => rw [hb] at z; exact absurd z (by decide)
        refine e_cb (a_cons (e_var rfl (a_nil (c_maxM hne ?_))))
        have e : maxL ((W.getD i []).map (sumM l)) = best (os.getD i true) ((W.getD i []).map (sumM l)) := by rw [eb]; rfl
        rw [e]
        exact fin
    · rintro Γ' Ω' ⟨_, hx, rfl⟩
      refine ⟨hx, ?_⟩
      rw [List.take_of_length_le (by simp [stepL, zipA]; omega)]
  rintro Γ' Ω' ⟨⟨x, y, z, rfl⟩, rfl⟩
  refine s_ret (e_then (e_var rfl (r_tupP put_same ?_)))
  rw [del_put nf]
  exact h
abbrev spLines : ASp := fun as Ω P => ∃ (os : List Bool) (W : Wb) (n : Nat), as = [.dat (gmD os W), .dat (.int n)] ∧ GmOk os W ∧ n ≤ 12 ∧ ∀ p, Ω p = none → P (.ptr p) (put Ω p ((linesD os W n).map .dat))
theorem ok_lines_left (T : Top K mg) : FnOk P w K mg base CX0 2 T.f_lines_left T.d_lines_left ["game", "count"] (spA K spLines) := by
  have G_line_left : FnOk P w K mg base CX0 1 T.f_line_left T.d_line_left ["game", "line"] (spA K spLine) := ok_line_left T
  refine fnA_ok T.D_lines_left.F sc_lines_left (fun as Ω P ⟨os, W, n, e, _⟩ => by subst e; rfl) (fun cdv A outer s H E hr => ?_)
  refine ⟨_, (pss_cons (ps_set (i := 2) sc_lines_left.nd rfl (.inl rfl) (pe_lst (pa_cons (Dat.pe_tupleK (K := K) rfl rfl T.b_tuple (pe_op op_rep (pe_lst (pa_cons pe_int pa_nil)) (pe_callB (Dat.lenQ (K := K) rfl) rfl T.b_len bt_len (pa_cons (pe_ix (Dat.ixT (K := K) rfl) (pv 0) pe_int (fun _ _ => rfl)) pa_nil)))) pa_nil)))
    (pss_cons (ps_for PassesOwn.never rfl (pi_range1 rfl T.b_range (pa_cons (pv 1) pa_nil)) (pg_name (i := 3) sc_lines_left.nd rfl (.inl rfl))
      (pss_one (ps_expr (Dat.appQ (K := K) rfl (pv 2) (pa_cons (pe_call G_line_left (hr.mono (by omega)) rfl T.D_line_left.g T.D_line_left.F.kp T.D_line_left.b .nil pass0 (pa_cons (pv 0) (pa_cons (pe_ix (Dat.ixL (K := K) rfl) (pv 2) (pe_un un_neg pe_int) (fun _ _ => rfl)) pa_nil))) pa_nil)))))
    (pss_one (ps_ret (pv 2))))), ?_⟩
  rintro as Ω P ⟨os, W, n, rfl, hg, hn, h⟩
  obtain ⟨⟨h1, h2, h3⟩, ho⟩ := id hg
  refine s_seq (s_asg (e_lstP (a_cons (e_then (e_op (e_lits [0] (e_cb (a_cons (e_op (e_var rfl (e_int (r_ixT rfl (a_nil (c_lenT (r_repL (by omega) (by rw [List.length_map]; omega) (by decide) (r_tupL (a_nil ⟨by simp, fun p np => ?_⟩)))))))))))))))))
  refine s_seqM (fun Γ' Ω' => (∃ x : Option Av, Γ' = [some (.dat (gmD os W)), some (.dat (.int n)), some (.ptr p), x]) ∧ Ω' = put Ω p ((linesD os W n).map .dat)) ?_ ?_
  · refine s_for (fun as i Γ' Ω' => as = rngA 0 n ∧ (∃ x : Option Av, Γ' = [some (.dat (gmD os W)), some (.dat (.int n)), some (.ptr p), x]) ∧ Ω' = put Ω p ((linesD os W i).map .dat)) ?_
    refine i_rng1 (a_cons (e_var rfl (a_nil ⟨_, rfl, ⟨by omega, by omega⟩, ⟨rfl, ⟨none, rfl⟩, ?_⟩, ?_, ?_⟩)))
    · have e : (List.replicate ((W.map ndD).length : Int).toNat [PyData.int 0]).flatten = (linesF os W 0).map PyData.int := by
        rw [flat_one, List.length_map, Int.toNat_natCast, linesF, List.map_replicate]
      show put Ω p [Av.dat (.tuple (List.replicate ((W.map ndD).length : Int).toNat [PyData.int 0]).flatten)] = _
      rw [e]
      rfl
    · rintro i it Γ' Ω' hit ⟨eas, ⟨x, rfl⟩, rfl⟩
      rw [eas] at hit
      have hi : i < n := (rng_at hit).1
      have hat : atI ((linesD os W i).map Av.dat) (-1) = some (.dat (lineD (linesF os W i))) := by
        unfold linesD
        rw [List.map_map]
        exact at_last _ i
      refine g_name (s_drop (e_app (e_var rfl ⟨p, rfl, ⟨_, put_same⟩, ?_⟩)))
      refine a_cons (e_call (a_cons (e_var rfl (a_cons (e_op (e_var rfl (e_un (e_int (r_neg (r_ixP put_same hat (a_nil ⟨os, W, linesF os W i, rfl, hg, lines_len os W i, ?_⟩)))))))))))
      refine a_nil ⟨_, _, rfl, put_same, by simp [linesD]; omega, eas, ⟨_, rfl⟩, ?_⟩
      rw [put_put]
      congr 1
      unfold linesD
      rw [List.range_succ (n := i + 1), List.map_append, List.map_append]
      rfl
    · rintro Γ' Ω' ⟨eas, hx, rfl⟩
      refine ⟨hx, ?_⟩
      rw [eas]
      simp [rngA]
  rintro Γ' Ω' ⟨⟨x, rfl⟩, rfl⟩
  exact s_ret (e_var rfl (h p np))
end
end K14

set_option Elab.async false
set_option linter.all false
set_option maxRecDepth 100000
set_option maxHeartbeats 1000000
namespace K14
open PySem PySem.Spec PyProof.Rows L2 Dat
local macro_rules | `(tactic| trivial) => `(tactic| (first
  | (with_reducible refine s_seq ?_)
  | (with_reducible refine s_asg ?_)
  | (with_reducible refine s_ret ?_)
  | (with_reducible refine s_drop ?_)
  | (with_reducible refine s_next ?_)
  | (with_reducible refine s_retN ?_)
  | (with_reducible refine s_brk ?_)
  | (with_reducible refine s_cont ?_)
  | (with_reducible refine s_if ?_)
  | (with_reducible refine e_int ?_)
  | (with_reducible refine e_str ?_)
  | (with_reducible refine e_bl ?_)
  | (with_reducible refine e_non ?_)
  | (with_reducible refine e_ty ?_)
  | (with_reducible refine e_tupD ?_)
  | (with_reducible refine e_lstD ?_)
  | (with_reducible refine e_op ?_)
  | (with_reducible refine e_un ?_)
  | (with_reducible refine e_then ?_)
  | (with_reducible refine e_cb ?_)
  | (with_reducible refine e_call ?_)
  | (with_reducible refine e_if ?_)
  | (with_reducible refine e_chain ?_)
  | (with_reducible refine e_andV ?_)
  | (with_reducible refine e_orV ?_)
  | (with_reducible refine e_notV ?_)
  | (with_reducible refine a_cons ?_)
  | (with_reducible refine a_nil ?_)
  | (with_reducible refine t_test ?_)
  | (with_reducible refine t_B ?_)
  | (with_reducible refine t_not ?_)
  | (with_reducible refine t_and ?_)
  | (with_reducible refine t_or ?_)
  | (with_reducible refine r_I0i ?_)
  | (with_reducible refine r_I0b ?_)
  | (with_reducible refine r_neg ?_)
  | (with_reducible refine r_isN ?_)
  | (with_reducible refine r_notN ?_)
  | (with_reducible refine c_lenT ?_)
  | (with_reducible refine c_lenL ?_)
  | (with_reducible refine c_intI ?_)
  | (with_reducible refine c_intB ?_)
  | (with_reducible refine c_max2 ?_)
  | (with_reducible refine c_min2 ?_)
  | (with_reducible refine c_abs ?_)
  | (with_reducible refine r_tupL ?_)
  | (with_reducible refine r_tupT ?_)
  | (with_reducible refine c_allM ?_)
  | ((with_reducible apply e_var); (exact rfl))
  | ((with_reducible refine r_eq ?_ ?_); (exact rfl))
  | ((with_reducible refine r_ne ?_ ?_); (exact rfl))
  | (with_reducible refine c_isi kit_int ?_)
  | (with_reducible refine c_isi kit_bool ?_)
  | (with_reducible refine c_isi kit_tuple ?_)
  | (with_reducible refine c_isi kit_list ?_)
  | (with_reducible refine c_isi kit_str ?_)
  | ((with_reducible apply r_ixT); (exact rfl))
  | ((with_reducible apply dats_pack); (iterate 40 (first | exact Dats.nil | apply Dats.cons | skip)); (exact rfl))
  | (with_reducible refine s_asgG ?_) | (with_reducible refine g_name ?_) | ((with_reducible refine g_tup ?_ ?_); (exact rfl)) | (refine gs_nil ?_) | (refine gs_cons ?_) | (with_reducible refine ⟨rfl, ?_⟩)
  | (refine ⟨_, rfl, ?_⟩) | (refine ⟨_, _, rfl, ?_⟩) | (refine ⟨_, _, _, rfl, ?_⟩) | (with_reducible refine ⟨fun _ => ?_, fun _ => ?_⟩) | fail))
/-! ### plays -/
def sumAt (n : Nd) (l : List Int) (k : Nat) : Int := sumM l (n.getD k (0, 0))
def bestsOf (n : Nd) (l : List Int) (t : Int) : List Nat := (List.range n.length).filter fun k => decide (sumAt n l k = t)
def firstIdx (n : Nd) (l : List Int) (t : Int) : Nat := (bestsOf n l t).headD 0
def AnyBest (n : Nd) (l : List Int) (t : Int) : Prop := ∃ k, k < n.length ∧ sumAt n l k = t
theorem bests_ne {n : Nd} {l : List Int} {t : Int} (h : AnyBest n l t) : bestsOf n l t ≠ [] := by
  obtain ⟨k, hk, e⟩ := h
  exact List.ne_nil_of_mem (a := k) (List.mem_filter.mpr ⟨List.mem_range.mpr hk, decide_eq_true e⟩)
theorem first_in {n : Nd} {l : List Int} {t : Int} (h : AnyBest n l t) : firstIdx n l t < n.length := by
  have ne := bests_ne h
  unfold firstIdx
  cases e : bestsOf n l t with
  | nil => exact absurd e ne
  | cons a r =>
    have : a ∈ bestsOf n l t := by rw [e]; simp
    exact List.mem_range.mp (List.mem_filter.mp this).1
theorem at_first {n : Nd} {l : List Int} {t : Int} (h : AnyBest n l t) : atI ((bestsOf n l t).map fun k : Nat => PyData.int (k : Nat)) 0 = some (.int (firstIdx n l t : Nat)) := by
  have ne := bests_ne h
  unfold firstIdx
  cases e : bestsOf n l t with
  | nil => exact absurd e ne
  | cons a r => exact atI_nat' (i := 0) rfl
theorem best_any {b : Bool} {n : Nd} {l : List Int} (h : n ≠ []) : AnyBest n l (best b (n.map (sumM l))) := by
  have := best_mem (b := b) (ns := n.map (sumM l)) (by simpa using h)
  obtain ⟨m, hm, e⟩ := List.mem_map.mp this
  obtain ⟨k, hk, ek⟩ := List.getElem_of_mem hm
  refine ⟨k, hk, ?_⟩
  unfold sumAt
  rw [List.getD_eq_getElem?_getD, List.getElem?_eq_getElem hk, ek]
  exact e
section
variable {P : Program} {w : World} {K : PySem.W.Frag} {mg : Str → Option Value} {base : Heap}
abbrev spFb : ASp := fun as Ω P => ∃ (n : Nd) (l : List Int) (t : Int), as = [.dat (ndD n), .dat (lineD l), .dat (.int t)] ∧ NdOk l.length n ∧ AnyBest n l t ∧ P (.dat (.int (firstIdx n l t : Nat))) Ω
theorem ok_first_best (T : Top K mg) : FnOk P w K mg base CX0 1 T.f_first_best T.d_first_best ["moves", "line", "total"] (spA K spFb) := by
  refine fnA_ok T.D_first_best.F sc_first_best (fun as Ω P ⟨n, l, t, e, _⟩ => by subst e; rfl) (fun cdv A outer s H E hr => ?_)
  refine ⟨_, (pss_one (ps_ret (pe_ix (Dat.ixL (K := K) rfl) (pe_lc (own := [("index", 3), ("weight", 4), ("target", 5)]) (g := (gTup K 2 (gCons (gName 3) (gCons (gTup K 2 (gCons (gName 4) (gCons (gName 5) gNil))) gNil)))) (tt := _) rfl sc_first_best.nd (Dat.enumTQ (K := K) rfl rfl T.b_enumerate (pa_cons (pv 0) pa_nil)) (blkOk_by (N := N_first_best) (sc := defScope s_first_best) (by decide +kernel)) (fun _ _ _ _ _ => (Dat.pgT (K := K) (n := 2) rfl rfl (pgs_cons (pg_name (i := 3) sc_first_best.nd rfl (Or.inl rfl)) (pgs_cons (Dat.pgT (K := K) (n := 2) rfl rfl (pgs_cons (pg_name (i := 4) sc_first_best.nd rfl (Or.inl rfl)) (pgs_cons (pg_name (i := 5) sc_first_best.nd rfl (Or.inl rfl)) pgs_nil))) pgs_nil)))) (fun _ _ _ _ _ => (pts_one (pt_cmpR op_eq (pe_op op_add (pv 4) (pe_ix (Dat.ixT (K := K) rfl) (pv 1) (pv 5) (fun _ _ => rfl))) (pv 2) (nomark _)))) (fun _ _ _ _ _ => (pv 3))) pe_int (fun _ _ => rfl)))), ?_⟩
  rintro as Ω P ⟨n, l, t, rfl, ⟨h1, h2, h3⟩, ha, h⟩
  refine s_ret (e_op (e_lcF (List.range n.length) (fun k => .dat (.tuple [.int (k : Nat), (n.map mvD).getD k .none])) (fun k => decide (sumAt n l k = t)) (fun k => .int (k : Nat)) (gn_tup (gns_cons (gn_name (by decide)) (gns_cons (gn_tup (gns_cons (gn_name (by decide)) (gns_cons (gn_name (by decide)) gns_nil))) gns_nil))) (by rw [List.length_range]; omega) ?_))
  refine i_enumT (a_cons (e_var rfl (a_nil ⟨_, rfl, ⟨?_, fun k Ω' hk _ => ?_, e_int (r_ixL (at_first ha) h)⟩⟩)))
  · unfold enumA
    rw [List.length_map]
  · have hk' : k < n.length := List.mem_range.mp hk
    have hv := h3 _ (getD_in (0, 0) hk')
    rw [getD_lt (0, 0) hk']
    refine g_tup rfl (gs_cons (g_name ⟨rfl, gs_cons (g_tup rfl (gs_cons (g_name ⟨rfl, gs_cons (g_name ⟨rfl, gs_nil ⟨rfl, gs_nil ⟨rfl, ?_⟩⟩⟩)⟩)))⟩))
    exact t_test (e_op (e_op (e_var rfl (e_op (e_var rfl (e_var rfl (r_ixT (at_line hv.2.2.1 hv.2.2.2) (r_I0i (e_var rfl (r_eq rfl ⟨_, rfl, rfl, rfl, fun _ => e_var rfl ⟨rfl, rfl⟩⟩))))))))))
abbrev spSt : ASp := fun as Ω P => ∃ (os : List Bool) (W : Wb) (n : Nat), as = [.dat (gmD os W), .dat (.int n)] ∧ GmOk os W ∧ n ≤ 12 ∧ P (.dat (.int ((linesF os W n).getD 0 0))) Ω
theorem linesD_at (os : List Bool) (W : Wb) {n j : Nat} (h : j ≤ n) : atI (linesD os W n) (j : Int) = some (lineD (linesF os W j)) := at_rng _ (by omega)
theorem ok_game_steps (T : Top K mg) : FnOk P w K mg base CX0 8 T.f_game_steps T.d_game_steps ["game", "count"] (spA K spSt) := by
  have G_check_game : FnOk P w K mg base CX0 7 T.f_check_game T.d_check_game ["thing"] (spA K spChkG) := ok_check_game T
  have G_check_count : FnOk P w K mg base CX0 3 T.f_check_count T.d_check_count ["thing", "low", "high"] (spA K spChkC) := ok_check_count T
  have G_lines_left : FnOk P w K mg base CX0 2 T.f_lines_left T.d_lines_left ["game", "count"] (spA K spLines) := ok_lines_left T
  refine fnA_ok T.D_game_steps.F sc_game_steps (fun as Ω P ⟨os, W, n, e, _⟩ => by subst e; rfl) (fun cdv A outer s H E hr => ?_)
  refine ⟨_, (pss_cons (ps_expr (pe_call G_check_game (hr.mono (by omega)) rfl T.D_check_game.g T.D_check_game.F.kp T.D_check_game.b .nil pass0 (pa_cons (pv 0) pa_nil)))
    (pss_cons (ps_expr (pe_call G_check_count (hr.mono (by omega)) rfl T.D_check_count.g T.D_check_count.F.kp T.D_check_count.b .nil pass0 (pa_cons (pv 1) (pa_cons pe_int (pa_cons (pe_glob (v := .int 12) rfl T.c_MOST_STEPS ⟨_, rfl⟩) pa_nil)))))
    (pss_one (ps_ret (pe_ix (Dat.ixT (K := K) rfl) (pe_ix (Dat.ixL (K := K) rfl) (pe_call G_lines_left (hr.mono (by omega)) rfl T.D_lines_left.g T.D_lines_left.F.kp T.D_lines_left.b .nil pass0 (pa_cons (pv 0) (pa_cons (pv 1) pa_nil))) (pv 1) (fun _ _ => rfl)) pe_int (fun _ _ => rfl)))))), ?_⟩
  rintro as Ω P ⟨os, W, n, rfl, hg, hn, h⟩
  refine s_seq (s_drop (e_call (a_cons (e_var rfl (a_nil ⟨os, W, rfl, hg, ?_⟩)))))
  refine s_seq (s_drop (e_call (a_cons (e_var rfl (a_cons (e_int (a_cons (e_int (a_nil ⟨_, _, _, rfl, by omega, by omega, ?_⟩)))))))))
  refine s_ret (e_op (e_op (EW.frz (e_call (a_cons (e_var rfl (a_cons (e_var rfl (a_nil ⟨os, W, n, rfl, hg, hn, fun p np => ⟨p, linesD os W n, rfl, put_same, ?_⟩⟩)))))))))
  rw [del_put np]
  have h0 : 0 < (linesF os W n).length := by
    rw [lines_len]
    exact hg.1.1
  exact e_var rfl (r_ixL (linesD_at os W (Nat.le_refl n)) (e_int (r_ixT (at_line (by decide) (by omega)) h)))
abbrev spSl : ASp := fun as Ω P => ∃ (os : List Bool) (W : Wb) (n : Nat), as = [.dat (gmD os W), .dat (.int n)] ∧ GmOk os W ∧ n ≤ 12 ∧ ∀ p, Ω p = none → P (.ptr p) (put Ω p ((linesD os W n).map .dat))
theorem ok_steps_lines (T : Top K mg) : FnOk P w K mg base CX0 8 T.f_steps_lines T.d_steps_lines ["game", "count"] (spA K spSl) := by
  have G_check_game : FnOk P w K mg base CX0 7 T.f_check_game T.d_check_game ["thing"] (spA K spChkG) := ok_check_game T
  have G_check_count : FnOk P w K mg base CX0 3 T.f_check_count T.d_check_count ["thing", "low", "high"] (spA K spChkC) := ok_check_count T
  have G_lines_left : FnOk P w K mg base CX0 2 T.f_lines_left T.d_lines_left ["game", "count"] (spA K spLines) := ok_lines_left T
  refine fnA_ok T.D_steps_lines.F sc_steps_lines (fun as Ω P ⟨os, W, n, e, _⟩ => by subst e; rfl) (fun cdv A outer s H E hr => ?_)
  refine ⟨_, (pss_cons (ps_expr (pe_call G_check_game (hr.mono (by omega)) rfl T.D_check_game.g T.D_check_game.F.kp T.D_check_game.b .nil pass0 (pa_cons (pv 0) pa_nil)))
    (pss_cons (ps_expr (pe_call G_check_count (hr.mono (by omega)) rfl T.D_check_count.g T.D_check_count.F.kp T.D_check_count.b .nil pass0 (pa_cons (pv 1) (pa_cons pe_int (pa_cons (pe_glob (v := .int 12) rfl T.c_MOST_STEPS ⟨_, rfl⟩) pa_nil)))))
    (pss_one (ps_ret (pe_call G_lines_left (hr.mono (by omega)) rfl T.D_lines_left.g T.D_lines_left.F.kp T.D_lines_left.b .nil pass0 (pa_cons (pv 0) (pa_cons (pv 1) pa_nil))))))), ?_⟩
  rintro as Ω P ⟨os, W, n, rfl, hg, hn, h⟩
  refine s_seq (s_drop (e_call (a_cons (e_var rfl (a_nil ⟨os, W, rfl, hg, ?_⟩)))))
  refine s_seq (s_drop (e_call (a_cons (e_var rfl (a_cons (e_int (a_cons (e_int (a_nil ⟨_, _, _, rfl, by omega, by omega, ?_⟩)))))))))
  exact s_ret (e_call (a_cons (e_var rfl (a_cons (e_var rfl (a_nil ⟨os, W, n, rfl, hg, hn, h⟩))))))
/-- the node and the moves after so many steps of a play of n -/
def goPl (os : List Bool) (W : Wb) (n : Nat) : Nat → Nat × List Nat
  | 0 => (0, [])
  | i + 1 =>
    let v := (goPl os W n i).1
    let k := firstIdx (W.getD v []) (linesF os W (n - i - 1)) ((linesF os W (n - i)).getD v 0)
    (((W.getD v []).getD k (0, 0)).2.toNat, (goPl os W n i).2 ++ [k])
def playD (os : List Bool) (W : Wb) (n : Nat) : List PyData := (goPl os W n n).2.map fun k : Nat => PyData.int (k : Nat)
theorem go_any {os : List Bool} {W : Wb} (hW : WbOk W) {n i v : Nat} (hi : i < n) (hv : v < W.length) : AnyBest (W.getD v []) (linesF os W (n - i - 1)) ((linesF os W (n - i)).getD v 0) := by
  have e : linesF os W (n - i) = stepL os W (linesF os W (n - i - 1)) := by
    obtain ⟨j, hj⟩ : ∃ j, n - i = j + 1 := ⟨n - i - 1, by omega⟩
    rw [hj]
    rfl
  have ev : (linesF os W (n - i)).getD v 0 = best (os.getD v true) ((W.getD v []).map (sumM (linesF os W (n - i - 1)))) := by
    rw [e, List.getD_eq_getElem?_getD]
    unfold stepL
    rw [List.getElem?_map, List.getElem?_range hv]
    rfl
  rw [ev]
  refine best_any fun z => ?_
  have := (hW.2.2 _ (getD_in [] hv)).1
  rw [z] at this
  simp at this
theorem go_in {os : List Bool} {W : Wb} (hW : WbOk W) {n : Nat} : ∀ i, i ≤ n → (goPl os W n i).1 < W.length ∧ (goPl os W n i).2.length = i
  | 0, _ => ⟨hW.1, rfl⟩
  | i + 1, h => by
    obtain ⟨g1, g2⟩ := go_in (os := os) hW (n := n) i (by omega)
    have ha := go_any (os := os) hW (n := n) (i := i) (by omega) g1
    have hv := (hW.2.2 _ (getD_in [] g1)).2.2 _ (getD_in (0, 0) (first_in ha))
    constructor
    · show (((W.getD (goPl os W n i).1 []).getD _ (0, 0)).2.toNat) < W.length
      have h1 := hv.2.2.1
      have h2 := hv.2.2.2
      omega
    · show ((goPl os W n i).2 ++ [_]).length = i + 1
      rw [List.length_append, g2]
      rfl
theorem web_at {W : Wb} {v : Nat} (h : v < W.length) : atI (W.map ndD) (v : Int) = some (ndD (W.getD v [])) := by
  refine atI_nat' ?_
  rw [List.getElem?_map, List.getD_eq_getElem?_getD, List.getElem?_eq_getElem h]
  rfl
abbrev spPl : ASp := fun as Ω P => ∃ (os : List Bool) (W : Wb) (n : Nat), as = [.dat (gmD os W), .dat (.int n)] ∧ GmOk os W ∧ n ≤ 12 ∧ ∀ p, Ω p = none → P (.ptr p) (put Ω p ((playD os W n).map .dat))
abbrev spWbl : ASp := fun as Ω P => ∃ (os : List Bool) (W : Wb) (n : Nat), as = [.dat (wbD W), .dat (.list (linesD os W n)), .dat (.int 0)] ∧ WbOk W ∧ n ≤ 12 ∧ ∀ p, Ω p = none → P (.ptr p) (put Ω p ((playD os W n).map .dat))
theorem linesD_len (os : List Bool) (W : Wb) (n : Nat) : (linesD os W n).length = n + 1 := by unfold linesD; rw [List.length_map, List.length_range]
theorem ok_walk_by_lines (T : Top K mg) : FnOk P w K mg base CX0 2 T.f_walk_by_lines T.d_walk_by_lines ["web", "lines", "node"] (spA K spWbl) := by
  have G_first_best : FnOk P w K mg base CX0 1 T.f_first_best T.d_first_best ["moves", "line", "total"] (spA K spFb) := ok_first_best T
  refine fnA_ok T.D_walk_by_lines.F sc_walk_by_lines (fun as Ω P ⟨os, W, n, e, _⟩ => by subst e; rfl) (fun cdv A outer s H E hr => ?_)
  refine ⟨_, (pss_cons (ps_set (i := 3) sc_walk_by_lines.nd rfl (.inl rfl) (pe_lst pa_nil))
    (pss_cons (ps_for PassesOwn.never rfl (pi_range3 rfl T.b_range (pa_cons (pe_op op_sub (pe_callB (Dat.lenQ (K := K) rfl) rfl T.b_len bt_len (pa_cons (pv 1) pa_nil)) pe_int) (pa_cons pe_int (pa_cons (pe_un un_neg pe_int) pa_nil)))) (pg_name (i := 4) sc_walk_by_lines.nd rfl (.inl rfl))
      (pss_cons (ps_set (i := 5) sc_walk_by_lines.nd rfl (.inl rfl) (pe_call G_first_best (hr.mono (by omega)) rfl T.D_first_best.g T.D_first_best.F.kp T.D_first_best.b .nil pass0 (pa_cons (pe_ix (Dat.ixT (K := K) rfl) (pv 0) (pv 2) (fun _ _ => rfl)) (pa_cons (pe_ix (Dat.ixL (K := K) rfl) (pv 1) (pe_op op_sub (pv 4) pe_int) (fun _ _ => rfl)) (pa_cons (pe_ix (Dat.ixT (K := K) rfl) (pe_ix (Dat.ixL (K := K) rfl) (pv 1) (pv 4) (fun _ _ => rfl)) (pv 2) (fun _ _ => rfl)) pa_nil)))))
      (pss_cons (ps_expr (Dat.appQ (K := K) rfl (pv 3) (pa_cons (pv 5) pa_nil)))
      (pss_one (ps_set (i := 2) sc_walk_by_lines.nd rfl (.inl rfl) (pe_ix (Dat.ixT (K := K) rfl) (pe_ix (Dat.ixT (K := K) rfl) (pe_ix (Dat.ixT (K := K) rfl) (pv 0) (pv 2) (fun _ _ => rfl)) (pv 5) (fun _ _ => rfl)) pe_int (fun _ _ => rfl)))))))
    (pss_one (ps_ret (pv 3))))), ?_⟩
  rintro as Ω P ⟨os, W, n, rfl, hg, hn, h⟩
  refine s_seq (s_asg (e_lstP (a_nil ⟨by simp, fun f nf => ?_⟩)))
  refine s_seqM (fun Γ' Ω' => (∃ x y z : Option Av, Γ' = [some (.dat (wbD W)), some (.dat (.list (linesD os W n))), z, some (.ptr f), x, y]) ∧ Ω' = put Ω f ((playD os W n).map .dat)) ?_ ?_
  · refine s_for (fun as i Γ' Ω' => as = rngC n (-1) n ∧ (∃ x y : Option Av, Γ' = [some (.dat (wbD W)), some (.dat (.list (linesD os W n))), some (.dat (.int ((goPl os W n i).1 : Nat))), some (.ptr f), x, y]) ∧ Ω' = put Ω f (((goPl os W n i).2.map fun k : Nat => PyData.int (k : Nat)).map .dat)) ?_
    refine i_rngD (a_cons (e_op (e_cb (a_cons (e_var rfl (a_nil (c_lenL (e_int (r_I0i (a_cons (e_int (a_cons (e_un (e_int (r_neg (a_nil ?_))))))))))))))))
    rw [linesD_len]
    refine ⟨((n + 1 : Nat) : Int) - 1, _, rfl, ⟨by omega, by omega, by decide, by decide⟩, ⟨?_, ⟨_, _, rfl⟩, rfl⟩, ?_, ?_⟩
    · congr 1
      · omega
      · congr 1
        omega
    · rintro i it Γ' Ω' hit ⟨eas, ⟨x, y, rfl⟩, rfl⟩
      rw [eas] at hit
      obtain ⟨hi, rfl⟩ := rng_at hit
      obtain ⟨g1, g2⟩ := go_in (os := os) hg (n := n) i (by omega)
      have ha := go_any (os := os) hg (n := n) (i := i) hi g1
      have el : (n : Int) + (i : Nat) * (-1) = ((n - i : Nat) : Int) := by omega
      have el1 : ((n - i : Nat) : Int) - 1 = ((n - i - 1 : Nat) : Int) := by omega
      have hnd := hg.2.2 _ (getD_in [] g1)
      rw [el]
      have at1 : atI (linesD os W n) (((n - i : Nat) : Int) - 1) = some (lineD (linesF os W (n - i - 1))) := by rw [el1]; exact linesD_at os W (by omega)
      have at2 : atI (linesD os W n) ((n - i : Nat) : Int) = some (lineD (linesF os W (n - i))) := linesD_at os W (by omega)
      have at3 : atI ((linesF os W (n - i)).map PyData.int) ((goPl os W n i).1 : Int) = some (.int ((linesF os W (n - i)).getD (goPl os W n i).1 0)) := by
        have := at_line (l := linesF os W (n - i)) (t := ((goPl os W n i).1 : Int)) (by omega) (by rw [lines_len]; omega)
        rw [Int.toNat_natCast] at this
        exact this
      refine g_name (s_seq (s_asg (e_call (a_cons (e_op (e_var rfl (e_var rfl (r_ixT (web_at g1) ?_))))))))
      refine a_cons (e_op (e_var rfl (e_op (e_var rfl (e_int (r_I0i (r_ixL at1 ?_)))))))
      refine a_cons (e_op (e_op (e_var rfl (e_var rfl (r_ixL at2 (e_var rfl (r_ixT at3 ?_)))))))
      refine a_nil ⟨_, _, _, rfl, by rw [lines_len]; exact hnd, ha, ?_⟩
      refine s_seq (s_drop (e_app (e_var rfl ⟨f, rfl, ⟨_, put_same⟩, a_cons (e_var rfl (a_nil ⟨_, _, rfl, put_same, by rw [List.length_map, List.length_map, g2]; omega, ?_⟩))⟩)))
      refine s_asg (e_op (e_op (e_op (e_var rfl (e_var rfl (r_ixT (web_at g1) (e_var rfl (r_ixT (nd_held (first_in ha)) (e_int (r_ixT rfl ⟨eas, ⟨some (.dat (.int ((n - i : Nat)))), some (.dat (.int (firstIdx (W.getD (goPl os W n i).1 []) (linesF os W (n - i - 1)) ((linesF os W (n - i)).getD (goPl os W n i).1 0) : Nat))), ?_⟩, ?_⟩))))))))))
      · have h0 := (hnd.2.2 _ (getD_in (0, 0) (first_in ha))).2.2.1
        show _ = [_, _, some (Av.dat (.int ((((W.getD (goPl os W n i).1 []).getD (firstIdx (W.getD (goPl os W n i).1 []) (linesF os W (n - i - 1)) ((linesF os W (n - i)).getD (goPl os W n i).1 0)) (0, 0)).2.toNat : Nat)))), _, _, _]
        rw [Int.toNat_of_nonneg h0]
        rfl
      · rw [put_put]
        show _ = put Ω f ((((goPl os W n i).2 ++ [_]).map fun k : Nat => PyData.int (k : Nat)).map .dat)
        rw [List.map_append, List.map_append]
        rfl
    · rintro Γ' Ω' ⟨eas, ⟨x, y, rfl⟩, rfl⟩
      refine ⟨⟨_, _, _, rfl⟩, ?_⟩
      rw [eas]
      simp only [rngC, List.length_map, List.length_range]
      rfl
  rintro Γ' Ω' ⟨⟨x, y, z, rfl⟩, rfl⟩
  exact s_ret (e_var rfl (h f nf))
theorem ok_steps_play (T : Top K mg) : FnOk P w K mg base CX0 8 T.f_steps_play T.d_steps_play ["game", "count"] (spA K spPl) := by
  have G_check_game : FnOk P w K mg base CX0 7 T.f_check_game T.d_check_game ["thing"] (spA K spChkG) := ok_check_game T
  have G_check_count : FnOk P w K mg base CX0 3 T.f_check_count T.d_check_count ["thing", "low", "high"] (spA K spChkC) := ok_check_count T
  have G_lines_left : FnOk P w K mg base CX0 2 T.f_lines_left T.d_lines_left ["game", "count"] (spA K spLines) := ok_lines_left T
  have G_walk_by_lines : FnOk P w K mg base CX0 2 T.f_walk_by_lines T.d_walk_by_lines ["web", "lines", "node"] (spA K spWbl) := ok_walk_by_lines T
  refine fnA_ok T.D_steps_play.F sc_steps_play (fun as Ω P ⟨os, W, n, e, _⟩ => by subst e; rfl) (fun cdv A outer s H E hr => ?_)
  refine ⟨_, (pss_cons (ps_expr (pe_call G_check_game (hr.mono (by omega)) rfl T.D_check_game.g T.D_check_game.F.kp T.D_check_game.b .nil pass0 (pa_cons (pv 0) pa_nil)))
    (pss_cons (ps_expr (pe_call G_check_count (hr.mono (by omega)) rfl T.D_check_count.g T.D_check_count.F.kp T.D_check_count.b .nil pass0 (pa_cons (pv 1) (pa_cons pe_int (pa_cons (pe_glob (v := .int 12) rfl T.c_MOST_STEPS ⟨_, rfl⟩) pa_nil)))))
    (pss_one (ps_ret (pe_call G_walk_by_lines (hr.mono (by omega)) rfl T.D_walk_by_lines.g T.D_walk_by_lines.F.kp T.D_walk_by_lines.b .nil pass0 (pa_cons (pe_ix (Dat.ixT (K := K) rfl) (pv 0) pe_int (fun _ _ => rfl)) (pa_cons (pe_call G_lines_left (hr.mono (by omega)) rfl T.D_lines_left.g T.D_lines_left.F.kp T.D_lines_left.b .nil pass0 (pa_cons (pv 0) (pa_cons (pv 1) pa_nil))) (pa_cons pe_int pa_nil)))))))), ?_⟩
  rintro as Ω P ⟨os, W, n, rfl, hg, hn, h⟩
  refine s_seq (s_drop (e_call (a_cons (e_var rfl (a_nil ⟨os, W, rfl, hg, ?_⟩)))))
  refine s_seq (s_drop (e_call (a_cons (e_var rfl (a_cons (e_int (a_cons (e_int (a_nil ⟨_, _, _, rfl, by omega, by omega, ?_⟩)))))))))
  refine s_ret (e_call (a_cons (e_op (e_var rfl (e_int (r_ixT rfl (a_cons (EW.frz (e_call (a_cons (e_var rfl (a_cons (e_var rfl (a_nil ⟨os, W, n, rfl, hg, hn, fun p np => ⟨p, linesD os W n, rfl, put_same, ?_⟩⟩))))))))))))))
  rw [del_put np]
  exact a_cons (e_int (a_nil ⟨os, W, n, rfl, hg.1, hn, h⟩))
end
end K14

set_option Elab.async false
set_option linter.all false
set_option maxRecDepth 100000
set_option maxHeartbeats 1000000
namespace K14
open PySem PySem.Spec PyProof.Rows L2 Dat
local macro_rules | `(tactic| trivial) => `(tactic| (first
  | (with_reducible refine s_seq ?_)
  | (with_reducible refine s_asg ?_)
  | (with_reducible refine s_ret ?_)
  | (with_reducible refine s_drop ?_)
  | (with_reducible refine s_next ?_)
  | (with_reducible refine s_retN ?_)
  | (with_reducible refine s_brk ?_)
  | (with_reducible refine s_cont ?_)
  | (with_reducible refine s_if ?_)
  | (with_reducible refine e_int ?_)
  | (with_reducible refine e_str ?_)
  | (with_reducible refine e_bl ?_)
  | (with_reducible refine e_non ?_)
  | (with_reducible refine e_ty ?_)
  | (with_reducible refine e_tupD ?_)
  | (with_reducible refine e_lstD ?_)
  | (with_reducible refine e_op ?_)
  | (with_reducible refine e_un ?_)
  | (with_reducible refine e_then ?_)
  | (with_reducible refine e_cb ?_)
  | (with_reducible refine e_call ?_)
  | (with_reducible refine e_if ?_)
  | (with_reducible refine e_chain ?_)
  | (with_reducible refine e_andV ?_)
  | (with_reducible refine e_orV ?_)
  | (with_reducible refine e_notV ?_)
  | (with_reducible refine a_cons ?_)
  | (with_reducible refine a_nil ?_)
  | (with_reducible refine t_test ?_)
  | (with_reducible refine t_B ?_)
  | (with_reducible refine t_not ?_)
  | (with_reducible refine t_and ?_)
  | (with_reducible refine t_or ?_)
  | (with_reducible refine r_I0i ?_)
  | (with_reducible refine r_I0b ?_)
  | (with_reducible refine r_neg ?_)
  | (with_reducible refine r_isN ?_)
  | (with_reducible refine r_notN ?_)
  | (with_reducible refine c_lenT ?_)
  | (with_reducible refine c_lenL ?_)
  | (with_reducible refine c_intI ?_)
  | (with_reducible refine c_intB ?_)
  | (with_reducible refine c_max2 ?_)
  | (with_reducible refine c_min2 ?_)
  | (with_reducible refine c_abs ?_)
  | (with_reducible refine r_tupL ?_)
  | (with_reducible refine r_tupT ?_)
  | (with_reducible refine c_allM ?_)
  | ((with_reducible apply e_var); (exact rfl))
  | ((with_reducible refine r_eq ?_ ?_); (exact rfl))
  | ((with_reducible refine r_ne ?_ ?_); (exact rfl))
  | (with_reducible refine c_isi kit_int ?_)
  | (with_reducible refine c_isi kit_bool ?_)
  | (with_reducible refine c_isi kit_tuple ?_)
  | (with_reducible refine c_isi kit_list ?_)
  | (with_reducible refine c_isi kit_str ?_)
  | ((with_reducible apply r_ixT); (exact rfl))
  | ((with_reducible apply dats_pack); (iterate 40 (first | exact Dats.nil | apply Dats.cons | skip)); (exact rfl))
  | (with_reducible refine s_asgG ?_) | (with_reducible refine g_name ?_) | ((with_reducible refine g_tup ?_ ?_); (exact rfl)) | (refine gs_nil ?_) | (refine gs_cons ?_) | (with_reducible refine ⟨rfl, ?_⟩)
  | (refine ⟨_, rfl, ?_⟩) | (refine ⟨_, _, rfl, ?_⟩) | (refine ⟨_, _, _, rfl, ?_⟩) | (with_reducible refine ⟨fun _ => ?_, fun _ => ?_⟩) | fail))
section
variable {P : Program} {w : World} {K : PySem.W.Frag} {mg : Str → Option Value} {base : Heap}
/-! ### the deck -/
abbrev deckL (a b c : Int) : List Av := [.dat (.int a), .dat (.int b), .dat (.int c)]
abbrev spOpen : ASp := fun as Ω P => ∃ (ns : List Int) (k : Nat), as = [.scr ns, .dat (.int k)] ∧ ∀ p a b, Ω p = none → P (.ptr p) (put Ω p (deckL a b 0))
theorem ok_open (T : Top K mg) : FnOk P w K mg base CX0 1 T.f__law_open T.d__law_open ["_law_script", "_law_k"] (spA K spOpen) := by
  refine fnA_ok T.D__law_open.F sc__law_open (fun as Ω P ⟨ns, k, e, _⟩ => by subst e; rfl) (fun cdv A outer s H E hr => ?_)
  refine ⟨_, (pss_cons (ps_set (i := 2) sc__law_open.nd rfl (.inl rfl) pe_int)
    (pss_cons (ps_if (pt_cmpR op_lt (pv 1) (pe_callB (Dat.lenQ (K := K) rfl) rfl T.b_len bt_len (pa_cons (pv 0) pa_nil)) (nomark _))
      (pss_one (ps_set (i := 2) sc__law_open.nd rfl (.inl rfl) (pe_ix (Dat.ixL (K := K) rfl) (pv 0) (pv 1) (fun _ _ => rfl))))
      pss_nil)
    (pss_cons (ps_set (i := 3) sc__law_open.nd rfl (.inl rfl) (pe_op op_add (pe_op op_add (pe_op op_mod (pe_callTy Dat.cl_int rfl T.b_int bt_int (pa_cons (pe_op op_add (pe_op op_mul pe_int (pe_callB Dat.cl_abs rfl T.b_abs bt_abs (pa_cons (pv 2) pa_nil))) (pe_callTy Dat.cl_int rfl T.b_int bt_int (pa_cons (pe_cmpR op_lt (pv 2) pe_int (nomark _)) pa_nil))) pa_nil)) (pe_op op_add (pe_op op_pow pe_int pe_int) pe_int)) (pe_op op_mul pe_int (pv 1))) pe_int))
    (pss_one (ps_ret (pe_lst (pa_cons (pe_callB (Dat.cl_max2 rfl) rfl T.b_max bt_max (pa_cons pe_int (pa_cons (pe_op op_sub (pv 2) (pe_op op_pow pe_int pe_int)) pa_nil))) (pa_cons (pv 3) (pa_cons pe_int pa_nil))))))))), ?_⟩
  rintro as Ω P ⟨ns, k, rfl, h⟩
  refine s_seq (s_asg (e_int ?_))
  refine s_seqM (fun Γ' Ω' => ∃ cell : Int, Γ' = [some (.scr ns), some (.dat (.int k)), some (.dat (.int cell)), none] ∧ Ω' = Ω) ?_ ?_
  · refine s_if (t_test (e_op (e_var rfl (e_cb (a_cons (e_var rfl (a_nil (c_lenS (r_I0b ⟨_, rfl, fun hb => ?_, fun _ => s_next ⟨_, rfl, rfl⟩⟩)))))))))
    have hk : k < ns.length := by
      have := of_decide_eq_true hb
      omega
    exact s_asg (e_op (e_var rfl (e_var rfl (r_ixS (n := ns[k]) (atI_nat' (List.getElem?_eq_getElem hk)) ⟨_, rfl, rfl⟩))))
  rintro Γ' Ω1 ⟨cell, rfl, rfl⟩
  refine s_seqM (fun Γ' Ω' => ∃ cell seed : Int, Γ' = [some (.scr ns), some (.dat (.int k)), some (.dat (.int cell)), some (.dat (.int seed))] ∧ Ω' = Ω1) ?_ ?_
  · refine s_asg (e_op (e_op (e_op (e_cb (a_cons (e_op (e_op (e_int (e_cb (a_cons (e_var rfl (a_nil (c_abs (r_Ii (by exact .inl ⟨by decide, by decide⟩) (e_cb (a_cons (e_op (e_var rfl (e_int (r_I0b (a_nil (c_intB (r_I0i (a_nil (c_intI ?_)))))))))))))))))))))))))
    refine e_op (e_op (e_int (e_int (r_Ii (by exact ⟨by decide, by decide, by decide⟩) (e_int (r_I0i (r_Ii (by show (0 : Int) < 10 ^ 39 + 3; decide) ?_)))))))
    exact e_op (e_int (e_var rfl (r_Ii (by exact .inl ⟨by decide, by decide⟩) (r_I0i (e_int (r_I0i ⟨_, _, rfl, rfl⟩))))))
  rintro Γ' Ω' ⟨cell, seed, rfl, rfl⟩
  refine s_ret (e_lstP (a_cons (e_cb (a_cons (e_int (a_cons (e_op (e_var rfl (e_op (e_int (e_int (r_Ii (by exact ⟨by decide, by decide, by decide⟩) (r_I0i (a_nil (c_max2 ?_)))))))))))))))
  exact a_cons (e_var rfl (a_cons (e_int (a_nil ⟨by simp, fun p hp => h p _ _ hp⟩))))
abbrev spDraw : ASp := fun as Ω P => ∃ (Ω0 : AH) (p : Addr) (m a b c : Int), as = [.ptr p, .dat (.int m)] ∧ Ω = put Ω0 p (deckL a b c) ∧ 0 ≤ c ∧ c ≤ 1000000000 ∧ 1 ≤ m ∧ m ≤ 1000000000 ∧ ∀ v a' b' c', 0 ≤ v → v < m → 0 ≤ c' → c' ≤ c + 1 → P (.dat (.int v)) (put Ω0 p (deckL a' b' c'))
theorem ok_draw (T : Top K mg) : FnOk P w K mg base CX0 1 T.f__law_draw T.d__law_draw ["_law_deck", "_law_many"] (spA K spDraw) := by
  refine fnA_ok T.D__law_draw.F sc__law_draw (fun as Ω P ⟨Ω0, p, m, a, b, c, e, _⟩ => by subst e; rfl) (fun cdv A outer s H E hr => ?_)
  refine ⟨_, (pss_cons (ps_if (pt_cmpR op_gt (pe_ix (Dat.ixL (K := K) rfl) (pv 0) pe_int (fun _ _ => rfl)) pe_int (nomark _))
      (pss_cons (ps_set (i := 2) sc__law_draw.nd rfl (.inl rfl) (pe_op op_mod (pe_callTy Dat.cl_int rfl T.b_int bt_int (pa_cons (pe_ix (Dat.ixL (K := K) rfl) (pv 0) pe_int (fun _ _ => rfl)) pa_nil)) (pv 1)))
      (pss_cons (ps_asg (pe_op op_fdiv (pe_ix (Dat.ixL (K := K) rfl) (pv 0) pe_int (fun _ _ => rfl)) (pv 1)) (pg_sub (pv 0) pe_int set_list))
      (pss_one (ps_ret (pv 2)))))
      pss_nil)
    (pss_cons (ps_asg (pe_op op_add (pe_ix (Dat.ixL (K := K) rfl) (pv 0) pe_int (fun _ _ => rfl)) pe_int) (pg_sub (pv 0) pe_int set_list))
    (pss_cons (ps_set (i := 3) sc__law_draw.nd rfl (.inl rfl) (pe_op op_mod (pe_callTy Dat.cl_int rfl T.b_int bt_int (pa_cons (pe_op op_add (pe_op op_mul (pe_ix (Dat.ixL (K := K) rfl) (pv 0) pe_int (fun _ _ => rfl)) (pe_op op_add pe_int (pe_op op_mul pe_int (pe_ix (Dat.ixL (K := K) rfl) (pv 0) pe_int (fun _ _ => rfl))))) (pe_op op_mul (pe_op op_mul pe_int (pe_ix (Dat.ixL (K := K) rfl) (pv 0) pe_int (fun _ _ => rfl))) (pe_ix (Dat.ixL (K := K) rfl) (pv 0) pe_int (fun _ _ => rfl)))) pa_nil)) pe_int))
    (pss_cons (ps_set (i := 3) sc__law_draw.nd rfl (.inl rfl) (pe_op op_mod (pe_callTy Dat.cl_int rfl T.b_int bt_int (pa_cons (pe_op op_add (pe_op op_add (pe_op op_mul (pv 3) (pv 3)) (pe_op op_mul pe_int (pe_ix (Dat.ixL (K := K) rfl) (pv 0) pe_int (fun _ _ => rfl)))) (pe_ix (Dat.ixL (K := K) rfl) (pv 0) pe_int (fun _ _ => rfl))) pa_nil)) pe_int))
    (pss_cons (ps_set (i := 3) sc__law_draw.nd rfl (.inl rfl) (pe_op op_mod (pe_callTy Dat.cl_int rfl T.b_int bt_int (pa_cons (pe_op op_add (pe_op op_mul (pe_op op_mul (pv 3) (pv 3)) (pv 3)) (pe_op op_mul pe_int (pe_ix (Dat.ixL (K := K) rfl) (pv 0) pe_int (fun _ _ => rfl)))) pa_nil)) pe_int))
    (pss_one (ps_ret (pe_op op_mod (pe_callTy Dat.cl_int rfl T.b_int bt_int (pa_cons (pe_op op_fdiv (pv 3) pe_int) pa_nil)) (pv 1))))))))), ?_⟩
  rintro as Ω P ⟨Ω0, p, m, a, b, c, rfl, rfl, c0, c9, m1, m2, h⟩
  have at0 : ∀ x y z : Int, atI (deckL x y z) 0 = some (.dat (.int x)) := fun _ _ _ => rfl
  have at1 : ∀ x y z : Int, atI (deckL x y z) 1 = some (.dat (.int y)) := fun _ _ _ => rfl
  have at2 : ∀ x y z : Int, atI (deckL x y z) 2 = some (.dat (.int z)) := fun _ _ _ => rfl
  refine s_seq (s_if (t_test (e_op (e_op (e_var rfl (e_int (r_ixP put_same (at0 a b c) (e_int (r_I0b ⟨_, rfl, fun _ => ?_, fun _ => s_next ?_⟩)))))))))
  · refine s_seq (s_asg (e_op (e_cb (a_cons (e_op (e_var rfl (e_int (r_ixP put_same (at0 a b c) (a_nil (c_intI (e_var rfl (r_Ii (by show (0 : Int) < m; omega) ?_))))))))))))
    refine s_seq (s_setL (e_op (e_op (e_var rfl (e_int (r_ixP put_same (at0 a b c) (e_var rfl (r_Ii (by exact ⟨by omega, by omega⟩) (e_var rfl ⟨p, rfl, e_int ⟨0, _, 0, rfl, put_same, rfl, ?_⟩⟩)))))))))
    refine s_ret (e_var rfl ?_)
    rw [put_put]
    exact h _ _ _ _ (Int.emod_nonneg _ (by omega)) (Int.emod_lt_of_pos _ (by omega)) c0 (by omega)
  refine s_seq (s_setL (e_op (e_op (e_var rfl (e_int (r_ixP put_same (at2 a b c) (e_int (r_I0i (e_var rfl ⟨p, rfl, e_int ⟨2, _, 2, rfl, put_same, rfl, ?_⟩⟩)))))))))
  show SW K _ _ (put (put Ω0 p (deckL a b c)) p (deckL a b (c + 1))) _
  rw [put_put]
  refine s_seqM (fun Γ' Ω' => ∃ x : Int, 0 ≤ x ∧ x < 1000000000000000003 ∧ Γ' = [some (.ptr p), some (.dat (.int m)), none, some (.dat (.int x))] ∧ Ω' = put Ω0 p (deckL a b (c + 1))) ?_ ?_
  · refine s_asg (e_op (e_cb (a_cons (e_op (e_op (e_op (e_var rfl (e_int (r_ixP put_same (at1 a b (c + 1)) (e_op (e_int (e_op (e_int (e_op (e_var rfl (e_int (r_ixP put_same (at2 a b (c + 1)) (r_Ii (by exact .inl ⟨by decide, by decide⟩) (r_I0i (r_Ii (by exact .inr ⟨by omega, by omega⟩) ?_))))))))))))))))))))
    refine e_op (e_op (e_int (e_op (e_var rfl (e_int (r_ixP put_same (at2 a b (c + 1)) (r_Ii (by exact .inl ⟨by decide, by decide⟩) (e_op (e_var rfl (e_int (r_ixP put_same (at2 a b (c + 1)) (r_Ii (by exact .inr ⟨by omega, by omega⟩) (r_I0i (a_nil (c_intI (e_int (r_Ii (by show (0 : Int) < 1000000000000000003; decide) ?_)))))))))))))))))
    exact ⟨_, Int.emod_nonneg _ (by decide), Int.emod_lt_of_pos _ (by decide), rfl, rfl⟩
  rintro Γ' Ω' ⟨x, x0, x1, rfl, rfl⟩
  refine s_seqM (fun Γ' Ω' => ∃ x : Int, 0 ≤ x ∧ x < 2305843009213693951 ∧ Γ' = [some (.ptr p), some (.dat (.int m)), none, some (.dat (.int x))] ∧ Ω' = put Ω0 p (deckL a b (c + 1))) ?_ ?_
  · refine s_asg (e_op (e_cb (a_cons (e_op (e_op (e_op (e_var rfl (e_var rfl (r_Ii (by exact .inl ⟨by omega, by omega⟩) ?_)))))))))
    refine e_op (e_int (e_op (e_var rfl (e_int (r_ixP put_same (at2 a b (c + 1)) (r_Ii (by exact .inl ⟨by decide, by decide⟩) (r_I0i ?_)))))))
    refine e_op (e_var rfl (e_int (r_ixP put_same (at1 a b (c + 1)) (r_I0i (a_nil (c_intI (e_int (r_Ii (by show (0 : Int) < 2305843009213693951; decide) ?_))))))))
    exact ⟨_, Int.emod_nonneg _ (by decide), Int.emod_lt_of_pos _ (by decide), rfl, rfl⟩
  rintro Γ' Ω' ⟨x, x0, x1, rfl, rfl⟩
  refine s_seqM (fun Γ' Ω' => ∃ x : Int, Γ' = [some (.ptr p), some (.dat (.int m)), none, some (.dat (.int x))] ∧ Ω' = put Ω0 p (deckL a b (c + 1))) ?_ ?_
  · refine s_asg (e_op (e_cb (a_cons (e_op (e_op (e_op (e_var rfl (e_var rfl (r_Ii (by exact .inl ⟨by omega, by omega⟩) (e_var rfl (r_Ii (by exact .inr ⟨by omega, by omega⟩) ?_)))))))))))
    refine e_op (e_int (e_op (e_var rfl (e_int (r_ixP put_same (at2 a b (c + 1)) (r_Ii (by exact .inl ⟨by decide, by decide⟩) (r_I0i (a_nil (c_intI (e_int (r_Ii (by show (0 : Int) < 1000000000000000009; decide) ⟨_, rfl, rfl⟩)))))))))))
  rintro Γ' Ω' ⟨x, rfl, rfl⟩
  refine s_ret (e_op (e_cb (a_cons (e_op (e_var rfl (e_int (r_Ii (by exact ⟨by decide, by decide⟩) (a_nil (c_intI (e_var rfl (r_Ii (by show (0 : Int) < m; omega) ?_)))))))))))
  exact h _ _ _ _ (Int.emod_nonneg _ (by omega)) (Int.emod_lt_of_pos _ (by omega)) (by omega) (by omega)
/-- a draw from the deck in a slot -/
theorem e_draw {Γ : List (Option Av)} {Ω0 : AH} {p : Addr} {i : Nat} {a b c : Int} {te : TE} {X : XK} {P : Av → AH → Prop} (hi : Γ[i]? = some (some (.ptr p)))
    (h : EW K te Γ (put Ω0 p (deckL a b c)) fun z Ω1 => ∃ m a1 b1 c1, z = .dat (.int m) ∧ Ω1 = put Ω0 p (deckL a1 b1 c1) ∧ (0 ≤ c1 ∧ c1 ≤ 1000000000) ∧ (1 ≤ m ∧ m ≤ 1000000000) ∧ ∀ v a' b' c', 0 ≤ v → v < m → 0 ≤ c' → c' ≤ c1 + 1 → P (.dat (.int v)) (put Ω0 p (deckL a' b' c'))) :
    EW K (tCall (spA K spDraw) [] X (tCons (tVar i) (tCons te tNil))) Γ (put Ω0 p (deckL a b c)) P :=
  e_call (a_cons (e_var hi (a_cons (h.mono fun z Ω1 ⟨m, a1, b1, c1, e1, e2, ⟨c1', c2'⟩, ⟨m1, m2⟩, q⟩ => a_nil ⟨Ω0, p, m, a1, b1, c1, by rw [e1], e2, c1', c2', m1, m2, q⟩))))
theorem e_drawN {Γ : List (Option Av)} {Ω0 : AH} {p : Addr} {i : Nat} {m a b c : Int} {X : XK} {P : Av → AH → Prop} (hi : Γ[i]? = some (some (.ptr p))) (m1 : 1 ≤ m) (m2 : m ≤ 1000000000) (c0 : 0 ≤ c) (c9 : c ≤ 1000000000)
    (h : ∀ v a' b' c', 0 ≤ v → v < m → 0 ≤ c' → c' ≤ c + 1 → P (.dat (.int v)) (put Ω0 p (deckL a' b' c'))) :
    EW K (tCall (spA K spDraw) [] X (tCons (tVar i) (tCons (tC (.int m)) tNil))) Γ (put Ω0 p (deckL a b c)) P :=
  e_draw hi (e_int ⟨m, a, b, c, rfl, rfl, ⟨c0, c9⟩, ⟨m1, m2⟩, h⟩)
theorem del_comm {Ω : AH} {p q : Addr} {as : List Av} (h : p ≠ q) : del (put Ω p as) q = put (del Ω q) p as := by
  funext a
  unfold put del
  by_cases e1 : a = q
  · rw [if_pos e1, if_neg (fun e => h (e.symm.trans e1)), if_pos e1]
  · rw [if_neg e1, if_neg e1]
/-! ### webs drawn -/
abbrev spWebL : ASp := fun as Ω P => ∃ (Ω0 : AH) (p : Addr) (many moves most a b c : Int), as = [.ptr p, .dat (.int many), .dat (.int moves), .dat (.int most)] ∧ Ω = put Ω0 p (deckL a b c) ∧ (0 ≤ c ∧ c ≤ 1000000) ∧ (1 ≤ many ∧ many ≤ 30) ∧ (1 ≤ moves ∧ moves ≤ 12) ∧ (1 ≤ most ∧ most ≤ 50) ∧
  ∀ W a' b' c', WbOk W → 0 ≤ c' → c' ≤ c + 2000 → P (.dat (wbD W)) (put Ω0 p (deckL a' b' c'))
theorem ok_webL (T : Top K mg) : FnOk P w K mg base CX0 2 T.f__law_web T.d__law_web ["_law_deck", "_law_many", "_law_moves", "_law_most"] (spA K spWebL) := by
  have G__law_draw : FnOk P w K mg base CX0 1 T.f__law_draw T.d__law_draw ["_law_deck", "_law_many"] (spA K spDraw) := ok_draw T
  refine fnA_ok T.D__law_web.F sc__law_web (fun as Ω P ⟨Ω0, p, many, moves, most, a, b, c, e, _⟩ => by subst e; rfl) (fun cdv A outer s H E hr => ?_)
  refine ⟨_, (pss_cons (ps_set (i := 4) sc__law_web.nd rfl (.inl rfl) (pe_op op_add pe_int (pe_call G__law_draw (hr.mono (by omega)) rfl T.D__law_draw.g T.D__law_draw.F.kp T.D__law_draw.b .nil pass0 (pa_cons (pv 0) (pa_cons (pv 1) pa_nil)))))
    (pss_cons (ps_set (i := 5) sc__law_web.nd rfl (.inl rfl) (pe_lst pa_nil))
    (pss_cons (ps_for PassesOwn.never rfl (pi_range1 rfl T.b_range (pa_cons (pv 4) pa_nil)) (pg_name (i := 6) sc__law_web.nd rfl (.inl rfl))
      (pss_cons (ps_set (i := 7) sc__law_web.nd rfl (.inl rfl) (pe_lst pa_nil))
      (pss_cons (ps_for PassesOwn.never rfl (pi_range1 rfl T.b_range (pa_cons (pe_op op_add pe_int (pe_call G__law_draw (hr.mono (by omega)) rfl T.D__law_draw.g T.D__law_draw.F.kp T.D__law_draw.b .nil pass0 (pa_cons (pv 0) (pa_cons (pv 2) pa_nil)))) pa_nil)) (pg_name (i := 8) sc__law_web.nd rfl (.inl rfl))
        (pss_one (ps_expr (Dat.appQ (K := K) rfl (pv 7) (pa_cons (pe_tup (pa_cons (pe_op op_sub (pe_call G__law_draw (hr.mono (by omega)) rfl T.D__law_draw.g T.D__law_draw.F.kp T.D__law_draw.b .nil pass0 (pa_cons (pv 0) (pa_cons (pe_op op_add (pe_op op_mul pe_int (pv 3)) pe_int) pa_nil))) (pv 3)) (pa_cons (pe_call G__law_draw (hr.mono (by omega)) rfl T.D__law_draw.g T.D__law_draw.F.kp T.D__law_draw.b .nil pass0 (pa_cons (pv 0) (pa_cons (pv 4) pa_nil))) pa_nil))) pa_nil)))))
      (pss_cons (ps_if (PW.pt (pw_and (pt_cmpR op_lt (pe_callB (Dat.lenQ (K := K) rfl) rfl T.b_len bt_len (pa_cons (pv 7) pa_nil)) (pv 2) (nomark _)) (pw_and1 (pt_cmpR op_eq (pe_call G__law_draw (hr.mono (by omega)) rfl T.D__law_draw.g T.D__law_draw.F.kp T.D__law_draw.b .nil pass0 (pa_cons (pv 0) (pa_cons pe_int pa_nil))) pe_int (nomark _)))))
        (pss_one (ps_expr (Dat.appQ (K := K) rfl (pv 7) (pa_cons (pe_ix (Dat.ixL (K := K) rfl) (pv 7) pe_int (fun _ _ => rfl)) pa_nil))))
        pss_nil)
      (pss_one (ps_expr (Dat.appQ (K := K) rfl (pv 5) (pa_cons (Dat.pe_tupleK (K := K) rfl rfl T.b_tuple (pv 7)) pa_nil))))))))
    (pss_one (ps_ret (Dat.pe_tupleK (K := K) rfl rfl T.b_tuple (pv 5))))))), ?_⟩
  rintro as Ω P ⟨Ω0, p, many, moves, most, a, b, c, rfl, rfl, ⟨c0, c9⟩, ⟨m1, m2⟩, ⟨v1, v2⟩, ⟨w1, w2⟩, h⟩
  refine s_seq (s_asg (e_op (e_int (e_draw rfl (e_var rfl ⟨_, a, b, c, rfl, rfl, ⟨c0, by omega⟩, ⟨m1, by omega⟩, fun v a b c1 s0 s1 d0 d1 => r_I0i ?_⟩)))))
  obtain ⟨size, hs⟩ : ∃ size : Nat, 1 + v = (size : Int) := ⟨(1 + v).toNat, (Int.toNat_of_nonneg (by omega)).symm⟩
  rw [hs]
  refine s_seq (s_asg (e_lstP (a_nil ⟨by simp, fun f nf => ?_⟩)))
  have nfp : f ≠ p := fun e => by rw [e, put_same] at nf; cases nf
  rw [put_ne nfp] at nf
  rw [put_comm nfp.symm]
  refine s_seqM (fun Γ' Ω' => ∃ (W : Wb) (x y z : Option Av) (a b c2 : Int), W.length = size ∧ (∀ n ∈ W, NdOk size n) ∧ 0 ≤ c2 ∧ c2 ≤ c1 + 40 * 30 ∧ Γ' = [some (.ptr p), some (.dat (.int many)), some (.dat (.int moves)), some (.dat (.int most)), some (.dat (.int size)), some (.ptr f), x, y, z] ∧ Ω' = put (put Ω0 f ((W.map ndD).map .dat)) p (deckL a b c2)) ?_ ?_
  · refine s_for (fun as i Γ' Ω' => as = rngA 0 size ∧ ∃ (W : Wb) (x y z : Option Av) (a b c2 : Int), W.length = i ∧ (∀ n ∈ W, NdOk size n) ∧ 0 ≤ c2 ∧ c2 ≤ c1 + 40 * i ∧ Γ' = [some (.ptr p), some (.dat (.int many)), some (.dat (.int moves)), some (.dat (.int most)), some (.dat (.int size)), some (.ptr f), x, y, z] ∧ Ω' = put (put Ω0 f ((W.map ndD).map .dat)) p (deckL a b c2)) ?_
    refine i_rng1 (a_cons (e_var rfl (a_nil ⟨_, rfl, ⟨by omega, by omega⟩, ⟨rfl, [], none, none, none, a, b, c1, rfl, nofun, d0, by omega, rfl, rfl⟩, ?_, ?_⟩)))
    · rintro i it Γ' Ω' hit ⟨eas, W, x, y, z, a, b, c2, hl, hW, e0, e1, rfl, rfl⟩
      rw [eas] at hit
      have hi : i < size := (rng_at hit).1
      refine g_name (s_seq (s_asg (e_lstP (a_nil ⟨by simp, fun q nq => ?_⟩))))
      have nqp : q ≠ p := fun e => by rw [e, put_same] at nq; cases nq
      rw [put_ne nqp] at nq
      have nqf : q ≠ f := fun e => by rw [e, put_same] at nq; cases nq
      rw [put_ne nqf] at nq
      rw [put_comm nqp.symm]
      refine s_seqM (fun Γ' Ω' => ∃ (n : Nd) (z : Option Av) (a b c3 : Int), 1 ≤ n.length ∧ (n.length : Int) ≤ moves ∧ (∀ m ∈ n, MvOk size m) ∧ 0 ≤ c3 ∧ c3 ≤ c2 + 1 + 2 * 12 ∧ Γ' = [some (.ptr p), some (.dat (.int many)), some (.dat (.int moves)), some (.dat (.int most)), some (.dat (.int size)), some (.ptr f), some it, some (.ptr q), z] ∧ Ω' = put (put (put Ω0 f ((W.map ndD).map .dat)) q ((n.map mvD).map .dat)) p (deckL a b c3)) ?_ ?_
      · refine s_for (fun as j Γ' Ω' => (1 ≤ as.length ∧ (as.length : Int) ≤ moves) ∧ ∃ (n : Nd) (z : Option Av) (a b c3 : Int), n.length = j ∧ (∀ m ∈ n, MvOk size m) ∧ 0 ≤ c3 ∧ c3 ≤ c2 + 1 + 2 * j ∧ Γ' = [some (.ptr p), some (.dat (.int many)), some (.dat (.int moves)), some (.dat (.int most)), some (.dat (.int size)), some (.ptr f), some it, some (.ptr q), z] ∧ Ω' = put (put (put Ω0 f ((W.map ndD).map .dat)) q ((n.map mvD).map .dat)) p (deckL a b c3)) ?_
        refine i_rng1 (a_cons (e_op (e_int (e_draw rfl (e_var rfl ⟨_, a, b, c2, rfl, rfl, ⟨e0, by omega⟩, ⟨v1, by omega⟩, fun u a b c3 u0 u1 f0 f1 => r_I0i (a_nil ⟨_, rfl, ⟨by omega, by omega⟩, ⟨⟨?_, ?_⟩, [], z, a, b, c3, rfl, nofun, f0, by omega, rfl, rfl⟩, ?_, ?_⟩)⟩)))))
        · simp [rngA]
          omega
        · simp [rngA]
          omega
        · rintro j jt Γ' Ω' hjt ⟨hla, n, z, a, b, c4, hln, hn, g0, g1, rfl, rfl⟩
          have hj := (List.getElem?_eq_some_iff.mp hjt).1
          refine g_name (s_drop (e_app (e_var rfl ⟨q, rfl, ⟨(n.map mvD).map .dat, by rw [put_ne nqp, put_same]⟩, ?_⟩)))
          refine a_cons (e_tupD (a_cons (e_op (e_draw rfl (e_op (e_op (e_int (e_var rfl (r_Ii (by exact .inl ⟨by decide, by decide⟩) (e_int (r_I0i ⟨_, a, b, c4, rfl, rfl, ⟨g0, by omega⟩, ⟨by omega, by omega⟩, fun t a b c5 t0 t1 i0 i1 => e_var rfl (r_I0i ?_)⟩)))))))))))
          refine a_cons (e_draw rfl (e_var rfl ⟨_, a, b, c5, rfl, rfl, ⟨i0, by omega⟩, ⟨by omega, by omega⟩, fun t2 a b c6 k0 k1 j0 j1 => a_nil ⟨_, .cons (.cons .nil), rfl, a_nil ⟨_, (n.map mvD).map .dat, rfl, by rw [put_ne nqp, put_same], by rw [List.length_map, List.length_map]; omega, ?_⟩⟩⟩))
          refine ⟨hla, n ++ [(t - most, t2)], _, a, b, c6, by simp [hln], fun m hm => ?_, j0, by omega, rfl, ?_⟩
          · rcases List.mem_append.mp hm with hm | hm
            · exact hn m hm
            · rw [List.mem_singleton.mp hm]
              exact ⟨by show -50 ≤ t - most; omega, by show t - most ≤ 50; omega, k0, k1⟩
          · rw [put_comm nqp.symm, put_put, List.map_append, List.map_append]
            rfl
        · rintro Γ' Ω' ⟨hla, n, z, a, b, c4, hln, hn, g0, g1, rfl, rfl⟩
          exact ⟨n, z, a, b, c4, by omega, by omega, hn, g0, by omega, rfl, rfl⟩
      rintro Γ' Ω' ⟨n, z, a, b, c3, l1, l2, hn, g0, g1, rfl, rfl⟩
      refine s_seqM (fun Γ' Ω' => ∃ (n : Nd) (z : Option Av) (a b c4 : Int), 1 ≤ n.length ∧ (n.length : Int) ≤ moves ∧ (∀ m ∈ n, MvOk size m) ∧ 0 ≤ c4 ∧ c4 ≤ c3 + 1 ∧ Γ' = [some (.ptr p), some (.dat (.int many)), some (.dat (.int moves)), some (.dat (.int most)), some (.dat (.int size)), some (.ptr f), some it, some (.ptr q), z] ∧ Ω' = put (put (put Ω0 f ((W.map ndD).map .dat)) q ((n.map mvD).map .dat)) p (deckL a b c4)) ?_ ?_
      · refine s_if (t_and (t_test (e_op (e_cb (a_cons (e_var rfl (a_nil (c_lenP (as := (n.map mvD).map .dat) (by rw [put_ne nqp, put_same]) (e_var rfl (r_I0b ⟨_, rfl, fun hb => ?_, fun _ => ⟨nofun, fun _ => s_next ⟨n, z, a, b, c3, l1, l2, hn, g0, by omega, rfl, rfl⟩⟩⟩))))))))))
        have hlt : (n.length : Int) < moves := by
          have := of_decide_eq_true hb
          rw [List.length_map, List.length_map] at this
          exact this
        refine t_test (e_op (e_drawN rfl (by decide) (by decide) g0 (by omega) fun t a b c4 t0 t1 i0 i1 => e_int (r_eq rfl ⟨_, rfl, fun _ => ?_, fun _ => s_next ⟨n, z, a, b, c4, l1, l2, hn, i0, i1, rfl, rfl⟩⟩)))
        obtain ⟨m0, r, rfl⟩ : ∃ m0 r, n = m0 :: r := by
          cases n with
          | nil => simp at l1
          | cons m0 r => exact ⟨m0, r, rfl⟩
        refine s_drop (e_app (e_var rfl ⟨q, rfl, ⟨((m0 :: r).map mvD).map .dat, by rw [put_ne nqp, put_same]⟩, ?_⟩))
        refine a_cons (e_op (e_var rfl (e_int (r_ixP (a := .dat (mvD m0)) (as := ((m0 :: r).map mvD).map .dat) (by rw [put_ne nqp, put_same]) (atI_nat' (i := 0) rfl) (a_nil ⟨_, ((m0 :: r).map mvD).map .dat, rfl, by rw [put_ne nqp, put_same], by rw [List.length_map, List.length_map]; omega, ?_⟩)))))
        refine ⟨(m0 :: r) ++ [m0], z, a, b, c4, by simp, by rw [List.length_append]; simp at hlt ⊢; omega, fun m hm => ?_, i0, i1, rfl, ?_⟩
        · rcases List.mem_append.mp hm with hm | hm
          · exact hn m hm
          · rw [List.mem_singleton.mp hm]
            exact hn m0 (by simp)
        · rw [put_comm nqp.symm, put_put, List.map_append, List.map_append]
          rfl
      rintro Γ' Ω' ⟨n, z, a, b, c4, l1, l2, hn, i0, i1, rfl, rfl⟩
      refine s_drop (e_app (e_var rfl ⟨f, rfl, ⟨(W.map ndD).map .dat, by rw [put_ne nfp, put_ne nqf.symm, put_same]⟩, ?_⟩))
      refine a_cons (e_then (e_var rfl (r_tupP (ds := n.map mvD) (by rw [put_ne nqp, put_same]) ?_)))
      rw [del_comm nqp.symm, del_put (by rw [put_ne nqf]; exact nq)]
      refine a_nil ⟨_, (W.map ndD).map .dat, rfl, by rw [put_ne nfp, put_same], by rw [List.length_map, List.length_map]; omega, ?_⟩
      refine ⟨eas, W ++ [n], _, _, _, a, b, c4, by simp [hl], fun m hm => ?_, i0, by omega, rfl, ?_⟩
      · rcases List.mem_append.mp hm with hm | hm
        · exact hW m hm
        · rw [List.mem_singleton.mp hm]
          exact ⟨l1, by omega, hn⟩
      · rw [put_comm nfp.symm, put_put, List.map_append, List.map_append]
        rfl
    · rintro Γ' Ω' ⟨eas, W, x, y, z, a, b, c2, hl, hW, e0, e1, rfl, rfl⟩
      refine ⟨W, x, y, z, a, b, c2, ?_, hW, e0, ?_, rfl, rfl⟩
      · rw [hl, eas]
        simp [rngA]
      · have : (rngA 0 ((size : Int)).toNat).length = size := by simp [rngA]
        rw [this] at e1
        omega
  rintro Γ' Ω' ⟨W, x, y, z, a, b, c2, hl, hW, e0, e1, rfl, rfl⟩
  refine s_ret (e_then (e_var rfl (r_tupP (ds := W.map ndD) (by rw [put_ne nfp, put_same]) ?_)))
  rw [del_comm nfp.symm, del_put nf]
  exact h W a b c2 ⟨by omega, by omega, by rw [hl]; exact hW⟩ e0 (by omega)
end
end K14

set_option Elab.async false
set_option linter.all false
set_option maxRecDepth 100000
set_option maxHeartbeats 1000000
namespace K14
open PySem PySem.Spec PyProof.Rows L2 Dat
local macro_rules | `(tactic| trivial) => `(tactic| (first
  | (with_reducible refine s_seq ?_)
  | (with_reducible refine s_asg ?_)
  | (with_reducible refine s_ret ?_)
  | (with_reducible refine s_drop ?_)
  | (with_reducible refine s_next ?_)
  | (with_reducible refine s_retN ?_)
  | (with_reducible refine s_brk ?_)
  | (with_reducible refine s_cont ?_)
  | (with_reducible refine s_if ?_)
  | (with_reducible refine e_int ?_)
  | (with_reducible refine e_str ?_)
  | (with_reducible refine e_bl ?_)
  | (with_reducible refine e_non ?_)
  | (with_reducible refine e_ty ?_)
  | (with_reducible refine e_tupD ?_)
  | (with_reducible refine e_lstD ?_)
  | (with_reducible refine e_op ?_)
  | (with_reducible refine e_un ?_)
  | (with_reducible refine e_then ?_)
  | (with_reducible refine e_cb ?_)
  | (with_reducible refine e_call ?_)
  | (with_reducible refine e_if ?_)
  | (with_reducible refine e_chain ?_)
  | (with_reducible refine e_andV ?_)
  | (with_reducible refine e_orV ?_)
  | (with_reducible refine e_notV ?_)
  | (with_reducible refine a_cons ?_)
  | (with_reducible refine a_nil ?_)
  | (with_reducible refine t_test ?_)
  | (with_reducible refine t_B ?_)
  | (with_reducible refine t_not ?_)
  | (with_reducible refine t_and ?_)
  | (with_reducible refine t_or ?_)
  | (with_reducible refine r_I0i ?_)
  | (with_reducible refine r_I0b ?_)
  | (with_reducible refine r_neg ?_)
  | (with_reducible refine r_isN ?_)
  | (with_reducible refine r_notN ?_)
  | (with_reducible refine c_lenT ?_)
  | (with_reducible refine c_lenL ?_)
  | (with_reducible refine c_intI ?_)
  | (with_reducible refine c_intB ?_)
  | (with_reducible refine c_max2 ?_)
  | (with_reducible refine c_min2 ?_)
  | (with_reducible refine c_abs ?_)
  | (with_reducible refine r_tupL ?_)
  | (with_reducible refine r_tupT ?_)
  | (with_reducible refine c_allM ?_)
  | ((with_reducible apply e_var); (exact rfl))
  | ((with_reducible refine r_eq ?_ ?_); (exact rfl))
  | ((with_reducible refine r_ne ?_ ?_); (exact rfl))
  | (with_reducible refine c_isi kit_int ?_)
  | (with_reducible refine c_isi kit_bool ?_)
  | (with_reducible refine c_isi kit_tuple ?_)
  | (with_reducible refine c_isi kit_list ?_)
  | (with_reducible refine c_isi kit_str ?_)
  | ((with_reducible apply r_ixT); (exact rfl))
  | ((with_reducible apply dats_pack); (iterate 40 (first | exact Dats.nil | apply Dats.cons | skip)); (exact rfl))
  | (with_reducible refine s_asgG ?_) | (with_reducible refine g_name ?_) | ((with_reducible refine g_tup ?_ ?_); (exact rfl)) | (refine gs_nil ?_) | (refine gs_cons ?_) | (with_reducible refine ⟨rfl, ?_⟩)
  | (refine ⟨_, rfl, ?_⟩) | (refine ⟨_, _, rfl, ?_⟩) | (refine ⟨_, _, _, rfl, ?_⟩) | (with_reducible refine ⟨fun _ => ?_, fun _ => ?_⟩) | fail))
section
variable {P : Program} {w : World} {K : PySem.W.Frag} {mg : Str → Option Value} {base : Heap}
abbrev spGame : ASp := fun as Ω P => ∃ (Ω0 : AH) (p : Addr) (many moves most a b c : Int), as = [.ptr p, .dat (.int many), .dat (.int moves), .dat (.int most)] ∧ Ω = put Ω0 p (deckL a b c) ∧ (0 ≤ c ∧ c ≤ 1000000) ∧ (1 ≤ many ∧ many ≤ 30) ∧ (1 ≤ moves ∧ moves ≤ 12) ∧ (1 ≤ most ∧ most ≤ 50) ∧
  ∀ os W a' b' c', GmOk os W → 0 ≤ c' → c' ≤ c + 3000 → P (.dat (gmD os W)) (put Ω0 p (deckL a' b' c'))
theorem ok_game (T : Top K mg) : FnOk P w K mg base CX0 3 T.f__law_game T.d__law_game ["_law_deck", "_law_many", "_law_moves", "_law_most"] (spA K spGame) := by
  have G__law_draw : FnOk P w K mg base CX0 1 T.f__law_draw T.d__law_draw ["_law_deck", "_law_many"] (spA K spDraw) := ok_draw T
  have G__law_web : FnOk P w K mg base CX0 2 T.f__law_web T.d__law_web ["_law_deck", "_law_many", "_law_moves", "_law_most"] (spA K spWebL) := ok_webL T
  refine fnA_ok T.D__law_game.F sc__law_game (fun as Ω P ⟨Ω0, p, many, moves, most, a, b, c, e, _⟩ => by subst e; rfl) (fun cdv A outer s H E hr => ?_)
  refine ⟨_, (pss_cons (ps_set (i := 4) sc__law_game.nd rfl (.inl rfl) (pe_call G__law_web (hr.mono (by omega)) rfl T.D__law_web.g T.D__law_web.F.kp T.D__law_web.b .nil pass0 (pa_cons (pv 0) (pa_cons (pv 1) (pa_cons (pv 2) (pa_cons (pv 3) pa_nil))))))
    (pss_one (ps_ret (pe_tup (pa_cons (Dat.pe_tupleK (K := K) rfl rfl T.b_tuple (pe_lc (own := [("_law_node", 5)]) (g := (gName 5)) (tt := tYes) rfl sc__law_game.nd (Dat.piT (K := K) rfl (pv 4)) (blkOk_by (N := N__law_game) (sc := defScope s__law_game) (by decide +kernel)) (fun _ _ _ _ _ => (pg_name (i := 5) sc__law_game.nd rfl (Or.inl rfl))) (fun _ _ _ _ _ => pts_nil) (fun _ _ _ _ _ => (pe_ix (Dat.ixL (K := K) rfl) (pe_lst (pa_cons pe_str (pa_cons pe_str pa_nil))) (pe_call G__law_draw (hr.mono (by omega)) rfl T.D__law_draw.g T.D__law_draw.F.kp T.D__law_draw.b .nil pass0 (pa_cons (pv 0) (pa_cons pe_int pa_nil))) (fun _ _ => rfl))))) (pa_cons (pv 4) pa_nil)))))), ?_⟩
  rintro as Ω P ⟨Ω0, p, many, moves, most, a, b, c, rfl, rfl, hc, hm, hv, hw, h⟩
  refine s_seq (s_asg (e_call (a_cons (e_var rfl (a_cons (e_var rfl (a_cons (e_var rfl (a_cons (e_var rfl (a_nil ⟨Ω0, p, many, moves, most, a, b, c, rfl, rfl, hc, hm, hv, hw, fun W a b c2 hW d0 d1 => ?_⟩)))))))))))
  refine s_ret (e_tupD (a_cons (e_then ?_)))
  refine e_lc (gn_name (by decide)) (fun D as i acc Ω' => as = (W.map ndD).map .dat ∧ Ω0 D = none ∧ D ≠ p ∧ ∃ (os : List Bool) (a b c3 : Int), acc = (os.map owD).map .dat ∧ os.length = i ∧ 0 ≤ c3 ∧ c3 ≤ c2 + i ∧ Ω' = put (put Ω0 D acc) p (deckL a b c3)) ?_
  refine i_tup (e_var rfl ⟨_, rfl, ⟨by rw [List.length_map, List.length_map]; have := hW.2.1; omega, fun D nD => ⟨?_, fun i x acc Ω' ex hM => ?_, fun acc Ω' hM => ?_⟩⟩⟩)
  · have ne : D ≠ p := fun e => by rw [e, put_same] at nD; cases nD
    rw [put_ne ne] at nD
    exact ⟨rfl, nD, ne, [], a, b, c2, rfl, rfl, d0, by omega, put_comm ne.symm⟩
  · obtain ⟨eas, nD, ne, os, a, b, c3, rfl, hl, g0, g1, rfl⟩ := hM
    have hi := (List.getElem?_eq_some_iff.mp ex).1
    rw [List.length_map, List.length_map] at hi
    have := hW.2.1
    refine ⟨by rw [put_ne ne, put_same], by rw [List.length_map, List.length_map]; omega, g_name (t_yes ⟨fun _ => ?_, nofun⟩)⟩
    refine e_op (e_lstD (a_cons (e_str (a_cons (e_str (a_nil ⟨_, .cons (.cons .nil), rfl, e_drawN rfl (by decide) (by decide) g0 (by omega) fun v a b c4 v0 v1 k0 k1 => r_ixL_any v0 v1 fun d hd => ?_⟩))))))
    obtain ⟨o, rfl⟩ : ∃ o : Bool, d = owD o := by
      simp only [List.mem_cons, List.not_mem_nil, or_false] at hd
      rcases hd with rfl | rfl
      · exact ⟨true, rfl⟩
      · exact ⟨false, rfl⟩
    refine ⟨by rw [put_ne ne, put_same], eas, nD, ne, os ++ [o], a, b, c4, by simp, by simp [hl], k0, by omega, ?_⟩
    rw [put_comm ne.symm, put_put]
  · obtain ⟨_, nD, ne, os, a, b, c3, rfl, hl, g0, g1, rfl⟩ := hM
    rw [List.length_map, List.length_map] at hl g1
    refine r_tupP (ds := os.map owD) (by rw [put_ne ne, put_same]) ?_
    rw [put_comm ne, del_put (by rw [put_ne ne]; exact nD)]
    have := hW.2.1
    exact a_cons (e_var rfl (a_nil ⟨_, .cons (.cons .nil), rfl, h os W a b c3 ⟨hW, hl⟩ g0 (by omega)⟩))
abbrev spDrawn : ASp := fun as Ω P => ∃ (Ω0 : AH) (p : Addr) (side : Bool) (os : List Bool) (W : Wb) (a b c : Int), as = [.ptr p, .dat (gmD os W), .dat (owD side)] ∧ Ω = put Ω0 p (deckL a b c) ∧ GmOk os W ∧ (0 ≤ c ∧ c ≤ 1000000) ∧
  ∀ ws a' b' c', WyOk side os W ws → 0 ≤ c' → c' ≤ c + 30 → P (.dat (.tuple (ws.map wyD))) (put Ω0 p (deckL a' b' c'))
theorem ow_at {os : List Bool} {k : Nat} (h : k < os.length) : atI (os.map owD) (0 + (k : Int)) = some (owD (os.getD k true)) := by
  rw [Int.zero_add]
  refine atI_nat' ?_
  rw [List.getElem?_map, List.getD_eq_getElem?_getD, List.getElem?_eq_getElem h]
  rfl
theorem web_at0 {W : Wb} {v : Nat} (h : v < W.length) : atI (W.map ndD) (0 + (v : Int)) = some (ndD (W.getD v [])) := by
  rw [Int.zero_add]
  exact web_at h
theorem ok_drawn (T : Top K mg) : FnOk P w K mg base CX0 2 T.f__law_drawn T.d__law_drawn ["_law_deck", "_law_match", "_law_side"] (spA K spDrawn) := by
  have G__law_draw : FnOk P w K mg base CX0 1 T.f__law_draw T.d__law_draw ["_law_deck", "_law_many"] (spA K spDraw) := ok_draw T
  refine fnA_ok T.D__law_drawn.F sc__law_drawn (fun as Ω P ⟨Ω0, p, side, os, W, a, b, c, e, _⟩ => by subst e; rfl) (fun cdv A outer s H E hr => ?_)
  refine ⟨_, (pss_cons (ps_asg (pv 1) (Dat.pgT (K := K) (n := 2) rfl rfl (pgs_cons (pg_name (i := 3) sc__law_drawn.nd rfl (.inr rfl)) (pgs_cons (pg_name (i := 4) sc__law_drawn.nd rfl (.inr rfl)) pgs_nil))))
    (pss_one (ps_ret (Dat.pe_tupleK (K := K) rfl rfl T.b_tuple (pe_lc (own := [("_law_k", 5)]) (g := (gName 5)) (tt := tYes) rfl sc__law_drawn.nd (pi_range1 rfl T.b_range (pa_cons (pe_callB (Dat.lenQ (K := K) rfl) rfl T.b_len bt_len (pa_cons (pv 4) pa_nil)) pa_nil)) (blkOk_by (N := N__law_drawn) (sc := defScope s__law_drawn) (by decide +kernel)) (fun _ _ _ _ _ => (pg_name (i := 5) sc__law_drawn.nd rfl (Or.inl rfl))) (fun _ _ _ _ _ => pts_nil) (fun _ _ _ _ _ => (pe_ifExp (pt_cmpR op_eq (pe_ix (Dat.ixT (K := K) rfl) (pv 3) (pv 5) (fun _ _ => rfl)) (pv 2) (nomark _)) (pe_call G__law_draw (hr.mono (by omega)) rfl T.D__law_draw.g T.D__law_draw.F.kp T.D__law_draw.b .nil pass0 (pa_cons (pv 0) (pa_cons (pe_callB (Dat.lenQ (K := K) rfl) rfl T.b_len bt_len (pa_cons (pe_ix (Dat.ixT (K := K) rfl) (pv 4) (pv 5) (fun _ _ => rfl)) pa_nil)) pa_nil))) pe_non))))))), ?_⟩
  rintro as Ω P ⟨Ω0, p, side, os, W, a, b, c, rfl, rfl, hg, ⟨c0, c9⟩, h⟩
  obtain ⟨⟨h1, h2, h3⟩, ho⟩ := id hg
  refine s_seq (s_asgG (e_var rfl (g_tup rfl (gs_cons (g_name ⟨rfl, gs_cons (g_name ⟨rfl, gs_nil ?_⟩)⟩)))))
  refine s_ret (e_then ?_)
  refine e_lc (gn_name (by decide)) (fun D as i acc Ω' => as = rngA 0 W.length ∧ Ω0 D = none ∧ D ≠ p ∧ ∃ (ws : Wy) (a b c3 : Int), acc = (ws.map wyD).map .dat ∧ ws.length = i ∧ (∀ k, k < i → if os.getD k true = side then ∃ j, ws.getD k none = some j ∧ j < (W.getD k []).length else ws.getD k none = none) ∧ 0 ≤ c3 ∧ c3 ≤ c + i ∧ Ω' = put (put Ω0 D acc) p (deckL a b c3)) ?_
  refine i_rng1 (a_cons (e_cb (a_cons (e_var rfl (a_nil (c_lenT (a_nil ⟨_, rfl, ⟨by rw [List.length_map]; omega, by rw [List.length_map]; omega⟩, ⟨by simp [rngA]; omega, fun D nD => ⟨?_, fun i x acc Ω' ex hM => ?_, fun acc Ω' hM => ?_⟩⟩⟩)))))))
  · have ne : D ≠ p := fun e => by rw [e, put_same] at nD; cases nD
    rw [put_ne ne] at nD
    exact ⟨by rw [List.length_map, Int.toNat_natCast], nD, ne, [], a, b, c, rfl, rfl, fun k hk => by omega, c0, by omega, put_comm ne.symm⟩
  · obtain ⟨eas, nD, ne, ws, a, b, c3, rfl, hl, hws, g0, g1, rfl⟩ := hM
    rw [eas] at ex
    obtain ⟨hi, rfl⟩ := rng_at ex
    have hn := h3 _ (getD_in [] hi)
    refine ⟨by rw [put_ne ne, put_same], by rw [List.length_map, List.length_map]; omega, g_name (t_yes ⟨fun _ => ?_, nofun⟩)⟩
    have put_on : ∀ (x : Option Nat) (a b c4 : Int), (if os.getD i true = side then ∃ j, x = some j ∧ j < (W.getD i []).length else x = none) → 0 ≤ c4 → c4 ≤ c3 + 1 →
        put (put Ω0 D ((ws.map wyD).map .dat)) p (deckL a b c4) D = some ((ws.map wyD).map .dat) ∧ (rngA 0 ((W.map ndD).length : Int).toNat = rngA 0 W.length ∧ Ω0 D = none ∧ D ≠ p ∧ ∃ (vs : Wy) (a' b' c5 : Int), (ws.map wyD).map Av.dat ++ [.dat (wyD x)] = (vs.map wyD).map .dat ∧ vs.length = i + 1 ∧ (∀ k, k < i + 1 → if os.getD k true = side then ∃ j, vs.getD k none = some j ∧ j < (W.getD k []).length else vs.getD k none = none) ∧ 0 ≤ c5 ∧ c5 ≤ c + (i + 1 : Nat) ∧ put (put (put Ω0 D ((ws.map wyD).map .dat)) p (deckL a b c4)) D ((ws.map wyD).map Av.dat ++ [.dat (wyD x)]) = put (put Ω0 D ((ws.map wyD).map Av.dat ++ [.dat (wyD x)])) p (deckL a' b' c5)) := fun x a b c4 hx k0 k1 => by
      refine ⟨by rw [put_ne ne, put_same], eas, nD, ne, ws ++ [x], a, b, c4, by simp, by simp [hl], fun k hk => ?_, k0, by omega, ?_⟩
      · by_cases e : k < i
        · have : (ws ++ [x]).getD k none = ws.getD k none := by
            rw [List.getD_eq_getElem?_getD, List.getD_eq_getElem?_getD, List.getElem?_append_left (by omega)]
          rw [this]
          exact hws k e
        · have ek : k = i := by omega
          subst ek
          have : (ws ++ [x]).getD k none = x := by
            rw [List.getD_eq_getElem?_getD, List.getElem?_append_right (by omega), hl, Nat.sub_self]
            rfl
          rw [this]
          exact hx
      · rw [put_comm ne.symm, put_put]
    refine e_if (t_test (e_op (e_op (e_var rfl (e_var rfl (r_ixT (ow_at (by omega)) (e_var rfl (r_eq (by cases os.getD i true <;> cases side <;> rfl) ⟨_, rfl, fun z => ?_, fun z => ?_⟩))))))))
    · rw [ow_eq] at z
      refine e_draw rfl (e_cb (a_cons (e_op (e_var rfl (e_var rfl (r_ixT (web_at0 hi) (a_nil (c_lenT ⟨_, a, b, c3, rfl, rfl, ⟨g0, by omega⟩, ⟨?_, ?_⟩, fun v a b c4 v0 v1 k0 k1 => ?_⟩))))))))
      · rw [List.length_map]
        have := hn.1
        omega
      · rw [List.length_map]
        have := hn.2.1
        omega
      · rw [List.length_map] at v1
        obtain ⟨j, rfl⟩ : ∃ j : Nat, v = j := ⟨v.toNat, (Int.toNat_of_nonneg v0).symm⟩
        exact put_on (some j) a b c4 (by rw [if_pos (by simpa using z)]; exact ⟨j, rfl, by omega⟩) k0 k1
    · rw [ow_eq] at z
      exact e_non (put_on none a b c3 (by rw [if_neg (by simpa using z)]) g0 (by omega))
  · obtain ⟨eas, nD, ne, ws, a, b, c3, rfl, hl, hws, g0, g1, rfl⟩ := hM
    have ll : (rngA 0 ((W.map ndD).length : Int).toNat).length = W.length := by simp [rngA]
    rw [ll] at hl hws g1
    refine r_tupP (ds := ws.map wyD) (by rw [put_ne ne, put_same]) ?_
    rw [put_comm ne, del_put (by rw [put_ne ne]; exact nD)]
    exact h ws a b c3 ⟨hl, hws⟩ g0 (by omega)
/-! ### the law's own answers -/
abbrev spHeldL : ASp := fun as Ω P => ∃ (side : Bool) (os : List Bool) (W : Wb) (ws : Wy), as = [.dat (gmD os W), .dat (owD side), .dat (.tuple (ws.map wyD))] ∧ GmOk os W ∧ WyOk side os W ws ∧ P (.dat (wbD (heldW W ws))) Ω
theorem ok_heldL (T : Top K mg) : FnOk P w K mg base CX0 1 T.f__law_held T.d__law_held ["_law_match", "_law_side", "_law_path"] (spA K spHeldL) := by
  refine fnA_ok T.D__law_held.F sc__law_held (fun as Ω P ⟨side, os, W, ws, e, _⟩ => by subst e; rfl) (fun cdv A outer s H E hr => ?_)
  refine ⟨_, (pss_cons (ps_asg (pv 0) (Dat.pgT (K := K) (n := 2) rfl rfl (pgs_cons (pg_name (i := 3) sc__law_held.nd rfl (.inr rfl)) (pgs_cons (pg_name (i := 4) sc__law_held.nd rfl (.inr rfl)) pgs_nil))))
    (pss_one (ps_ret (Dat.pe_tupleK (K := K) rfl rfl T.b_tuple (pe_lc (own := [("_law_k", 5)]) (g := (gName 5)) (tt := tYes) rfl sc__law_held.nd (pi_range1 rfl T.b_range (pa_cons (pe_callB (Dat.lenQ (K := K) rfl) rfl T.b_len bt_len (pa_cons (pv 4) pa_nil)) pa_nil)) (blkOk_by (N := N__law_held) (sc := defScope s__law_held) (by decide +kernel)) (fun _ _ _ _ _ => (pg_name (i := 5) sc__law_held.nd rfl (Or.inl rfl))) (fun _ _ _ _ _ => pts_nil) (fun _ _ _ _ _ => (pe_ifExp (pt_cmpR op_eq (pe_ix (Dat.ixT (K := K) rfl) (pv 3) (pv 5) (fun _ _ => rfl)) (pv 1) (nomark _)) (pe_tup (pa_cons (pe_ix (Dat.ixT (K := K) rfl) (pe_ix (Dat.ixT (K := K) rfl) (pv 4) (pv 5) (fun _ _ => rfl)) (pe_ix (Dat.ixT (K := K) rfl) (pv 2) (pv 5) (fun _ _ => rfl)) (fun _ _ => rfl)) pa_nil)) (pe_ix (Dat.ixT (K := K) rfl) (pv 4) (pv 5) (fun _ _ => rfl))))))))), ?_⟩
  rintro as Ω P ⟨side, os, W, ws, rfl, ⟨⟨h1, h2, h3⟩, ho⟩, ⟨hl, hw⟩, h⟩
  refine s_seq (s_asgG (e_var rfl (g_tup rfl (gs_cons (g_name ⟨rfl, gs_cons (g_name ⟨rfl, gs_nil ?_⟩)⟩)))))
  refine s_ret (e_then (e_lcM (List.range W.length) (fun k => .dat (.int (0 + (k : Nat)))) (fun k => ndD (heldN (W.getD k []) (ws.getD k none))) (gn_name (by decide)) (by rw [List.length_range]; omega) ?_))
  refine i_rng1 (a_cons (e_cb (a_cons (e_var rfl (a_nil (c_lenT (a_nil ⟨_, rfl, ⟨by rw [List.length_map]; omega, by rw [List.length_map]; omega⟩, ⟨?_, fun k Ω' hk _ => g_name ⟨rfl, ?_⟩, r_tupL ?_⟩⟩)))))))
  · unfold rngA
    rw [List.length_map, Int.toNat_natCast]
  · have hk' : k < W.length := List.mem_range.mp hk
    have hwk := hw k hk'
    have atw : atI (ws.map wyD) (0 + (k : Int)) = some (wyD (ws.getD k none)) := by
      rw [Int.zero_add]
      refine atI_nat' ?_
      rw [List.getElem?_map, List.getD_eq_getElem?_getD, List.getElem?_eq_getElem (by omega)]
      rfl
    refine e_if (t_test (e_op (e_op (e_var rfl (e_var rfl (r_ixT (ow_at (by omega)) (e_var rfl (r_eq (by cases os.getD k true <;> cases side <;> rfl) ⟨_, rfl, fun z => ?_, fun z => ?_⟩))))))))
    · rw [ow_eq] at z
      rw [if_pos (by simpa using z)] at hwk
      obtain ⟨i, ei, hi⟩ := hwk
      rw [ei] at atw
      rw [ei]
      exact e_tupD (a_cons (e_op (e_op (e_var rfl (e_var rfl (r_ixT (web_at0 hk') (e_op (e_var rfl (e_var rfl (r_ixT atw (r_ixT (nd_held hi) (a_nil ⟨_, .cons .nil, rfl, rfl, rfl⟩))))))))))))
    · rw [ow_eq] at z
      rw [if_neg (by simpa using z)] at hwk
      rw [hwk]
      exact e_op (e_var rfl (e_var rfl (r_ixT (web_at0 hk') ⟨rfl, rfl⟩)))
  · have : wbD (heldW W ws) = .tuple ((List.range W.length).map fun k => ndD (heldN (W.getD k []) (ws.getD k none))) := by
      unfold wbD heldW
      rw [List.map_map]
      rfl
    rw [← this]
    exact h
end
end K14

set_option Elab.async false
set_option linter.all false
set_option maxRecDepth 100000
set_option maxHeartbeats 1000000
namespace K14
open PySem PySem.Spec PyProof.Rows L2 Dat
local macro_rules | `(tactic| trivial) => `(tactic| (first
  | (with_reducible refine s_seq ?_)
  | (with_reducible refine s_asg ?_)
  | (with_reducible refine s_ret ?_)
  | (with_reducible refine s_drop ?_)
  | (with_reducible refine s_next ?_)
  | (with_reducible refine s_retN ?_)
  | (with_reducible refine s_brk ?_)
  | (with_reducible refine s_cont ?_)
  | (with_reducible refine s_if ?_)
  | (with_reducible refine e_int ?_)
  | (with_reducible refine e_str ?_)
  | (with_reducible refine e_bl ?_)
  | (with_reducible refine e_non ?_)
  | (with_reducible refine e_ty ?_)
  | (with_reducible refine e_tupD ?_)
  | (with_reducible refine e_lstD ?_)
  | (with_reducible refine e_op ?_)
  | (with_reducible refine e_un ?_)
  | (with_reducible refine e_then ?_)
  | (with_reducible refine e_cb ?_)
  | (with_reducible refine e_call ?_)
  | (with_reducible refine e_if ?_)
  | (with_reducible refine e_chain ?_)
  | (with_reducible refine e_andV ?_)
  | (with_reducible refine e_orV ?_)
  | (with_reducible refine e_notV ?_)
  | (with_reducible refine a_cons ?_)
  | (with_reducible refine a_nil ?_)
  | (with_reducible refine t_test ?_)
  | (with_reducible refine t_B ?_)
  | (with_reducible refine t_not ?_)
  | (with_reducible refine t_and ?_)
  | (with_reducible refine t_or ?_)
  | (with_reducible refine r_I0i ?_)
  | (with_reducible refine r_I0b ?_)
  | (with_reducible refine r_neg ?_)
  | (with_reducible refine r_isN ?_)
  | (with_reducible refine r_notN ?_)
  | (with_reducible refine c_lenT ?_)
  | (with_reducible refine c_lenL ?_)
  | (with_reducible refine c_intI ?_)
  | (with_reducible refine c_intB ?_)
  | (with_reducible refine c_max2 ?_)
  | (with_reducible refine c_min2 ?_)
  | (with_reducible refine c_abs ?_)
  | (with_reducible refine r_tupL ?_)
  | (with_reducible refine r_tupT ?_)
  | (with_reducible refine c_allM ?_)
  | ((with_reducible apply e_var); (exact rfl))
  | ((with_reducible refine r_eq ?_ ?_); (exact rfl))
  | ((with_reducible refine r_ne ?_ ?_); (exact rfl))
  | (with_reducible refine c_isi kit_int ?_)
  | (with_reducible refine c_isi kit_bool ?_)
  | (with_reducible refine c_isi kit_tuple ?_)
  | (with_reducible refine c_isi kit_list ?_)
  | (with_reducible refine c_isi kit_str ?_)
  | ((with_reducible apply r_ixT); (exact rfl))
  | ((with_reducible apply dats_pack); (iterate 40 (first | exact Dats.nil | apply Dats.cons | skip)); (exact rfl))
  | (with_reducible refine s_asgG ?_) | (with_reducible refine g_name ?_) | ((with_reducible refine g_tup ?_ ?_); (exact rfl)) | (refine gs_nil ?_) | (refine gs_cons ?_) | (with_reducible refine ⟨rfl, ?_⟩)
  | (refine ⟨_, rfl, ?_⟩) | (refine ⟨_, _, rfl, ?_⟩) | (refine ⟨_, _, _, rfl, ?_⟩) | (with_reducible refine ⟨fun _ => ?_, fun _ => ?_⟩) | fail))
theorem sorted_head {ns ms : List Int} (ne : ns ≠ []) (p : ms.Perm ns) (s : ms.Pairwise (· ≤ ·)) : atI (ms.map PyData.int) 0 = some (.int (minL ns)) := by
  cases ms with
  | nil => exact absurd (p.symm.eq_nil) ne
  | cons a r =>
    rw [List.pairwise_cons] at s
    have : a = minL ns := minL_eq (p.mem_iff.mp (by simp)) fun y hy => by
      rcases List.mem_cons.mp (p.mem_iff.mpr hy) with rfl | hy
      · exact Int.le_refl _
      · exact s.1 y hy
    rw [← this]
    exact atI_nat' (i := 0) rfl
theorem sorted_last {ns ms : List Int} (ne : ns ≠ []) (p : ms.Perm ns) (s : ms.Pairwise (· ≤ ·)) : atI (ms.map PyData.int) (-1) = some (.int (maxL ns)) := by
  have nm : ms ≠ [] := fun e => by
    rw [e] at p
    exact ne p.symm.eq_nil
  obtain ⟨r, a, rfl⟩ : ∃ r a, ms = r ++ [a] := ⟨ms.dropLast, ms.getLast nm, (List.dropLast_concat_getLast nm).symm⟩
  have : a = maxL ns := maxL_eq (p.mem_iff.mp (by simp)) fun y hy => by
    rcases List.mem_append.mp (p.mem_iff.mpr hy) with hy | hy
    · exact (List.pairwise_append.mp s).2.2 y hy a (by simp)
    · rw [List.mem_singleton.mp hy]
      exact Int.le_refl _
  rw [← this]
  unfold atI ixN
  rw [List.length_map, List.length_append, if_neg (by decide), if_pos (by simp; omega)]
  show ((r ++ [a]).map PyData.int)[(-1 + ((r.length + [a].length : Nat) : Int)).toNat]? = _
  rw [show (-1 + ((r.length + [a].length : Nat) : Int)).toNat = r.length by simp; omega, List.map_append, List.getElem?_append_right (by simp), List.length_map, Nat.sub_self]
  rfl
section
variable {P : Program} {w : World} {K : PySem.W.Frag} {mg : Str → Option Value} {base : Heap}
theorem c_sortedM {α : Type} {Ω : AH} {P : Av → AH → Prop} {xs : List α} {f : α → Int} (l : xs.length < 64) (h : ∀ ms : List Int, ms.Perm (xs.map f) → ms.Pairwise (· ≤ ·) → P (.dat (.list (ms.map PyData.int))) Ω) : RCW K (rSorted K) [.dat (.list (xs.map fun x => .int (f x)))] Ω P := by
  have e : xs.map (fun x => PyData.int (f x)) = (xs.map f).map PyData.int := by
    rw [List.map_map]
    rfl
  rw [e]
  exact c_sorted (by rw [List.length_map]; exact l) h
def rawD (os : List Bool) (W : Wb) (n : Nat) : List PyData := (List.range (n + 1)).map fun j => PyData.list ((linesF os W j).map PyData.int)
abbrev spLinesL : ASp := fun as Ω P => ∃ (os : List Bool) (W : Wb) (n : Nat), as = [.dat (gmD os W), .dat (.int n)] ∧ GmOk os W ∧ n ≤ 12 ∧ P (.dat (.list (linesD os W n))) Ω
theorem ok_linesL (T : Top K mg) : FnOk P w K mg base CX0 1 T.f__law_lines T.d__law_lines ["_law_match", "_law_num"] (spA K spLinesL) := by
  refine fnA_ok T.D__law_lines.F sc__law_lines (fun as Ω P ⟨os, W, n, e, _⟩ => by subst e; rfl) (fun cdv A outer s H E hr => ?_)
  refine ⟨_, (pss_cons (ps_asg (pv 0) (Dat.pgT (K := K) (n := 2) rfl rfl (pgs_cons (pg_name (i := 2) sc__law_lines.nd rfl (.inl rfl)) (pgs_cons (pg_name (i := 3) sc__law_lines.nd rfl (.inl rfl)) pgs_nil))))
    (pss_cons (ps_set (i := 4) sc__law_lines.nd rfl (.inr rfl) (pe_lst (pa_cons (pe_op op_rep (pe_lst (pa_cons pe_int pa_nil)) (pe_callB (Dat.lenQ (K := K) rfl) rfl T.b_len bt_len (pa_cons (pv 3) pa_nil))) pa_nil)))
    (pss_cons (ps_for PassesOwn.never rfl (pi_range1 rfl T.b_range (pa_cons (pv 1) pa_nil)) (pg_name (i := 5) sc__law_lines.nd rfl (.inl rfl))
      (pss_cons (ps_set (i := 6) sc__law_lines.nd rfl (.inl rfl) (pe_lst pa_nil))
      (pss_cons (ps_for PassesOwn.never rfl (pi_range1 rfl T.b_range (pa_cons (pe_callB (Dat.lenQ (K := K) rfl) rfl T.b_len bt_len (pa_cons (pv 3) pa_nil)) pa_nil)) (pg_name (i := 7) sc__law_lines.nd rfl (.inl rfl))
        (pss_cons (ps_set (i := 8) sc__law_lines.nd rfl (.inl rfl) (pe_callB (Dat.sortedQ (K := K) rfl) rfl T.b_sorted bt_sorted (pa_cons (pe_lc (own := [("_law_weight", 9), ("_law_target", 10)]) (g := (gTup K 2 (gCons (gName 9) (gCons (gName 10) gNil)))) (tt := tYes) rfl sc__law_lines.nd (Dat.piT (K := K) rfl (pe_ix (Dat.ixT (K := K) rfl) (pv 3) (pv 7) (fun _ _ => rfl))) (blkOk_by (N := N__law_lines) (sc := defScope s__law_lines) (by decide +kernel)) (fun _ _ _ _ _ => (Dat.pgT (K := K) (n := 2) rfl rfl (pgs_cons (pg_name (i := 9) sc__law_lines.nd rfl (Or.inl rfl)) (pgs_cons (pg_name (i := 10) sc__law_lines.nd rfl (Or.inl rfl)) pgs_nil)))) (fun _ _ _ _ _ => pts_nil) (fun _ _ _ _ _ => (pe_op op_add (pv 9) (pe_ix (Dat.ixL (K := K) rfl) (pe_ix (Dat.ixL (K := K) rfl) (pv 4) (pe_un un_neg pe_int) (fun _ _ => rfl)) (pv 10) (fun _ _ => rfl))))) pa_nil)))
        (pss_one (ps_expr (Dat.appQ (K := K) rfl (pv 6) (pa_cons (pe_ifExp (pt_cmpR op_eq (pe_ix (Dat.ixT (K := K) rfl) (pv 2) (pv 7) (fun _ _ => rfl)) pe_str (nomark _)) (pe_ix (Dat.ixL (K := K) rfl) (pv 8) pe_int (fun _ _ => rfl)) (pe_ix (Dat.ixL (K := K) rfl) (pv 8) (pe_un un_neg pe_int) (fun _ _ => rfl))) pa_nil))))))
      (pss_one (ps_expr (Dat.appQ (K := K) rfl (pv 4) (pa_cons (pv 6) pa_nil)))))))
    (pss_one (ps_ret (pe_lc (own := [("_law_line", 6)]) (g := (gName 6)) (tt := tYes) rfl sc__law_lines.nd (Dat.piL (K := K) rfl (pv 4)) (blkOk_by (N := N__law_lines) (sc := defScope s__law_lines) (by decide +kernel)) (fun _ _ _ _ _ => (pg_name (i := 6) sc__law_lines.nd rfl (Or.inl rfl))) (fun _ _ _ _ _ => pts_nil) (fun _ _ _ _ _ => (Dat.pe_tupleK (K := K) rfl rfl T.b_tuple (pv 6))))))))), ?_⟩
  rintro as Ω P ⟨os, W, n, rfl, hg, hn, h⟩
  obtain ⟨⟨h1, h2, h3⟩, ho⟩ := id hg
  refine s_seq (s_asgG (e_var rfl (g_tup rfl (gs_cons (g_name ⟨rfl, gs_cons (g_name ⟨rfl, gs_nil ?_⟩)⟩)))))
  refine s_seq (s_asg (e_lstP (a_cons (e_op (e_lits [0] (e_cb (a_cons (e_var rfl (a_nil (c_lenT (r_repL (by omega) (by rw [List.length_map]; omega) (by decide) (a_nil ⟨by simp, fun f nf => ?_⟩))))))))))))
  have e0 : (List.replicate ((W.map ndD).length : Int).toNat [PyData.int 0]).flatten = (linesF os W 0).map PyData.int := by
    rw [flat_one, List.length_map, Int.toNat_natCast, linesF, List.map_replicate]
  have e1 : [Av.dat (.list (List.replicate ((W.map ndD).length : Int).toNat ([0].map PyData.int)).flatten)] = (rawD os W 0).map .dat := by
    show [Av.dat (.list (List.replicate ((W.map ndD).length : Int).toNat [PyData.int 0]).flatten)] = _
    rw [e0]
    rfl
  rw [e1]
  refine s_seqM (fun Γ' Ω' => (∃ x y z u : Option Av, Γ' = [some (.dat (gmD os W)), some (.dat (.int n)), some (.dat (.tuple (os.map owD))), some (.dat (wbD W)), some (.ptr f), x, y, z, u, none, none]) ∧ Ω' = put Ω f ((rawD os W n).map .dat)) ?_ ?_
  · refine s_for (fun as i Γ' Ω' => as = rngA 0 n ∧ (∃ x y z u : Option Av, Γ' = [some (.dat (gmD os W)), some (.dat (.int n)), some (.dat (.tuple (os.map owD))), some (.dat (wbD W)), some (.ptr f), x, y, z, u, none, none]) ∧ Ω' = put Ω f ((rawD os W i).map .dat)) ?_
    refine i_rng1 (a_cons (e_var rfl (a_nil ⟨_, rfl, ⟨by omega, by omega⟩, ⟨rfl, ⟨none, none, none, none, rfl⟩, rfl⟩, ?_, ?_⟩)))
    · rintro i it Γ' Ω' hit ⟨eas, ⟨x, y, z, u, rfl⟩, rfl⟩
      rw [eas] at hit
      have hi : i < n := (rng_at hit).1
      refine g_name (s_seq (s_asg (e_lstP (a_nil ⟨by simp, fun q nq => ?_⟩))))
      have nqf : q ≠ f := fun e => by rw [e, put_same] at nq; cases nq
      rw [put_ne nqf] at nq
      have hlast : atI ((rawD os W i).map Av.dat) (-1) = some (.dat (.list ((linesF os W i).map PyData.int))) := by
        unfold rawD
        rw [List.map_map]
        exact at_last _ i
      refine s_seqM (fun Γ' Ω' => (∃ z u : Option Av, Γ' = [some (.dat (gmD os W)), some (.dat (.int n)), some (.dat (.tuple (os.map owD))), some (.dat (wbD W)), some (.ptr f), some it, some (.ptr q), z, u, none, none]) ∧ Ω' = put (put Ω f ((rawD os W i).map .dat)) q (((linesF os W (i + 1)).map PyData.int).map .dat)) ?_ ?_
      · refine s_for (fun as k Γ' Ω' => as = rngA 0 W.length ∧ (∃ z u : Option Av, Γ' = [some (.dat (gmD os W)), some (.dat (.int n)), some (.dat (.tuple (os.map owD))), some (.dat (wbD W)), some (.ptr f), some it, some (.ptr q), z, u, none, none]) ∧ Ω' = put (put Ω f ((rawD os W i).map .dat)) q ((((linesF os W (i + 1)).take k).map PyData.int).map .dat)) ?_
        refine i_rng1 (a_cons (e_cb (a_cons (e_var rfl (a_nil (c_lenT (a_nil ⟨_, rfl, ⟨by rw [List.length_map]; omega, by rw [List.length_map]; omega⟩, ⟨by rw [List.length_map, Int.toNat_natCast], ⟨z, u, rfl⟩, rfl⟩, ?_, ?_⟩)))))))
        · rintro k kt Γ' Ω' hkt ⟨ekas, ⟨z, u, rfl⟩, rfl⟩
          rw [ekas] at hkt
          obtain ⟨hk, rfl⟩ := rng_at hkt
          have hnd := h3 _ (getD_in [] hk)
          have hne : (W.getD k []) ≠ [] := fun e => by
            have := hnd.1
            rw [e] at this
            simp at this
          have hne2 : (W.getD k []).map (sumM (linesF os W i)) ≠ [] := by simpa using hne
          refine g_name (s_seq (s_asg (e_cb (a_cons (e_lcM (W.getD k []) (fun m => .dat (mvD m)) (fun m => .int (sumM (linesF os W i) m)) (gn_tup (gns_cons (gn_name (by decide)) (gns_cons (gn_name (by decide)) gns_nil))) (Nat.le_trans hnd.2.1 (by decide)) ?_)))))
          refine i_tup (e_op (e_var rfl (e_var rfl (r_ixT (web_at0 hk) ⟨_, rfl, ?_, fun m Ω' hm ext => g_tup rfl (gs_cons (g_name ⟨rfl, gs_cons (g_name ⟨rfl, gs_nil ⟨rfl, ?_⟩⟩)⟩)), ?_⟩))))
          · rw [List.map_map]
            rfl
          · have hv := hnd.2.2 m hm
            have hf : Ω' f = some ((rawD os W i).map .dat) := ext f _ (by rw [put_ne nqf.symm, put_same])
            exact e_op (e_var rfl (e_op (e_op (e_var rfl (e_un (e_int (r_neg (r_ixP hf hlast (e_var rfl (r_ixL (at_line hv.2.2.1 (by rw [lines_len]; exact hv.2.2.2)) (r_I0i ⟨rfl, rfl⟩)))))))))))
          refine a_nil (c_sortedM (Nat.lt_of_le_of_lt hnd.2.1 (by decide)) fun ms hp hs => ?_)
          refine s_drop (e_app (e_var rfl ⟨q, rfl, ⟨_, put_same⟩, ?_⟩))
          have es : (linesF os W (i + 1))[k]? = some (best (os.getD k true) ((W.getD k []).map (sumM (linesF os W i)))) := by
            show (stepL os W (linesF os W i))[k]? = _
            unfold stepL
            rw [List.getElem?_map, List.getElem?_range hk]
            rfl
          refine a_cons (EW.mono (P := fun a Ω2 => a = .dat (.int (best (os.getD k true) ((W.getD k []).map (sumM (linesF os W i))))) ∧ Ω2 = put (put Ω f ((rawD os W i).map .dat)) q ((((linesF os W (i + 1)).take k).map PyData.int).map .dat)) ?_ ?_)
          · refine e_if (t_test (e_op (e_op (e_var rfl (e_var rfl (r_ixT (ow_at (by omega)) (e_str (r_eq (by cases os.getD k true <;> rfl) ⟨_, rfl, fun z => ?_, fun z => ?_⟩))))))))
            · have eb : os.getD k true = true := by
                cases hb : os.getD k true with
                | true => rfl
                | false => rw [hb] at z; exact absurd z (by decide)
              refine e_op (e_var rfl (e_int (r_ixL (sorted_head hne2 hp hs) ⟨?_, rfl⟩)))
              rw [eb]
              rfl
            · have eb : os.getD k true = false := by
                cases hb : os.getD k true with
                | false => rfl
                | true => rw [hb] at z; exact absurd z (by decide)
              refine e_op (e_var rfl (e_un (e_int (r_neg (r_ixL (sorted_last hne2 hp hs) ⟨?_, rfl⟩)))))
              rw [eb]
              rfl
          rintro _ _ ⟨rfl, rfl⟩
          refine a_nil ⟨_, _, rfl, put_same, ?_, ekas, ⟨_, _, rfl⟩, ?_⟩
          · rw [List.length_map, List.length_map, List.length_take]
            omega
          · rw [put_put, List.take_add_one, es, List.map_append, List.map_append]
            rfl
        · rintro Γ' Ω' ⟨ekas, hx, rfl⟩
          refine ⟨hx, ?_⟩
          rw [List.take_of_length_le (by rw [lines_len, ekas]; simp [rngA])]
      rintro Γ' Ω' ⟨⟨z, u, rfl⟩, rfl⟩
      refine s_drop (e_app (e_var rfl ⟨f, rfl, ⟨(rawD os W i).map .dat, by rw [put_ne nqf.symm, put_same]⟩, ?_⟩))
      refine a_cons (EW.frz (e_var rfl ⟨q, _, rfl, put_same, ?_⟩))
      rw [del_put (by rw [put_ne nqf]; exact nq)]
      refine a_nil ⟨_, _, rfl, put_same, by simp [rawD]; omega, eas, ⟨_, _, _, _, rfl⟩, ?_⟩
      rw [put_put]
      congr 1
      unfold rawD
      rw [List.range_succ (n := i + 1), List.map_append, List.map_append]
      rfl
    · rintro Γ' Ω' ⟨eas, hx, rfl⟩
      refine ⟨hx, ?_⟩
      rw [eas]
      simp [rngA]
  rintro Γ' Ω' ⟨⟨x, y, z, u, rfl⟩, rfl⟩
  refine s_ret (e_lcM (List.range (n + 1)) (fun j => .dat (.list ((linesF os W j).map PyData.int))) (fun j => lineD (linesF os W j)) (gn_name (by decide)) (by rw [List.length_range]; omega) ?_)
  refine i_list (EW.frz (e_var rfl ⟨f, rawD os W n, rfl, put_same, _, rfl, ?_, fun j Ω' hj _ => g_name ⟨rfl, e_then (e_var rfl (r_tupL ⟨rfl, rfl⟩))⟩, ?_⟩))
  · unfold rawD
    rw [List.map_map]
    rfl
  · rw [del_put nf]
    exact h
abbrev spPlayL : ASp := fun as Ω P => ∃ (os : List Bool) (W : Wb) (n : Nat), as = [.dat (gmD os W), .dat (.list (linesD os W n)), .dat (.int n)] ∧ GmOk os W ∧ n ≤ 12 ∧ ∀ p, Ω p = none → P (.ptr p) (put Ω p ((playD os W n).map .dat))
theorem nd_at0 {n : Nd} {i : Nat} (h : i < n.length) : atI (n.map mvD) (0 + (i : Int)) = some (mvD (n.getD i (0, 0))) := by
  rw [Int.zero_add]
  exact nd_held h
theorem at_first0 {n : Nd} {l : List Int} {t : Int} (h : AnyBest n l t) : atI ((bestsOf n l t).map fun k : Nat => PyData.int (0 + (k : Nat))) 0 = some (.int (0 + (firstIdx n l t : Nat))) := by
  have e : ((bestsOf n l t).map fun k : Nat => PyData.int (0 + (k : Nat))) = (bestsOf n l t).map fun k : Nat => PyData.int (k : Nat) := by
    congr 1
    funext k
    rw [Int.zero_add]
  rw [e, Int.zero_add]
  exact at_first h
theorem ok_playL (T : Top K mg) : FnOk P w K mg base CX0 1 T.f__law_play T.d__law_play ["_law_match", "_law_lines_here", "_law_num"] (spA K spPlayL) := by
  refine fnA_ok T.D__law_play.F sc__law_play (fun as Ω P ⟨os, W, n, e, _⟩ => by subst e; rfl) (fun cdv A outer s H E hr => ?_)
  refine ⟨_, (pss_cons (ps_asg (pe_tup (pa_cons pe_int (pa_cons (pe_lst pa_nil) pa_nil))) (Dat.pgT (K := K) (n := 2) rfl rfl (pgs_cons (pg_name (i := 3) sc__law_play.nd rfl (.inr rfl)) (pgs_cons (pg_name (i := 4) sc__law_play.nd rfl (.inl rfl)) pgs_nil))))
    (pss_cons (ps_for PassesOwn.never rfl (pi_range3 rfl T.b_range (pa_cons (pv 2) (pa_cons pe_int (pa_cons (pe_un un_neg pe_int) pa_nil)))) (pg_name (i := 5) sc__law_play.nd rfl (.inr rfl))
      (pss_cons (ps_set (i := 6) sc__law_play.nd rfl (.inr rfl) (pe_ix (Dat.ixT (K := K) rfl) (pe_ix (Dat.ixT (K := K) rfl) (pv 0) pe_int (fun _ _ => rfl)) (pv 3) (fun _ _ => rfl)))
      (pss_cons (ps_setLc (i := 7) (own := [("_law_k", 8)]) (g := (gName 8)) (tt := _) rfl sc__law_play.nd rfl rfl (sw_true rfl rfl rfl (by decide +kernel)) (pi_range1 rfl T.b_range (pa_cons (pe_callB (Dat.lenQ (K := K) rfl) rfl T.b_len bt_len (pa_cons (pv 6) pa_nil)) pa_nil)) (blkOk_by (N := N__law_play) (sc := defScope s__law_play) (by decide +kernel)) (fun _ _ _ _ _ => (pg_name (i := 8) sc__law_play.nd rfl (Or.inl rfl))) (fun _ _ _ _ _ => (pts_one (pt_cmpR op_eq (pe_op op_add (pe_ix (Dat.ixT (K := K) rfl) (pe_ix (Dat.ixT (K := K) rfl) (pv 6) (pv 8) (fun _ _ => rfl)) pe_int (fun _ _ => rfl)) (pe_ix (Dat.ixT (K := K) rfl) (pe_ix (Dat.ixL (K := K) rfl) (pv 1) (pe_op op_sub (pv 5) pe_int) (fun _ _ => rfl)) (pe_ix (Dat.ixT (K := K) rfl) (pe_ix (Dat.ixT (K := K) rfl) (pv 6) (pv 8) (fun _ _ => rfl)) pe_int (fun _ _ => rfl)) (fun _ _ => rfl))) (pe_ix (Dat.ixT (K := K) rfl) (pe_ix (Dat.ixL (K := K) rfl) (pv 1) (pv 5) (fun _ _ => rfl)) (pv 3) (fun _ _ => rfl)) (nomark _)))) (fun _ _ _ _ _ => (pv 8)))
      (pss_cons (ps_expr (Dat.appQ (K := K) rfl (pv 4) (pa_cons (pe_ix (Dat.ixL (K := K) rfl) (pv 7) pe_int (fun _ _ => rfl)) pa_nil)))
      (pss_one (ps_set (i := 3) sc__law_play.nd rfl (.inr rfl) (pe_ix (Dat.ixT (K := K) rfl) (pe_ix (Dat.ixT (K := K) rfl) (pv 6) (pe_ix (Dat.ixL (K := K) rfl) (pv 7) pe_int (fun _ _ => rfl)) (fun _ _ => rfl)) pe_int (fun _ _ => rfl))))))))
    (pss_one (ps_ret (pv 4))))), ?_⟩
  rintro as Ω P ⟨os, W, n, rfl, hg, hn, h⟩
  refine s_seq (s_asgG (e_tupA (a_cons (e_int (a_cons (e_lstP (a_nil ⟨by simp, fun f nf => ?_⟩)))))))
  refine a_nil ⟨by simp, g_tupA rfl (gs_cons (g_name ⟨rfl, gs_cons (g_name ⟨rfl, gs_nil ?_⟩)⟩))⟩
  refine s_seqM (fun Γ' Ω' => (∃ x y z u : Option Av, Γ' = [some (.dat (gmD os W)), some (.dat (.list (linesD os W n))), some (.dat (.int n)), x, some (.ptr f), y, z, u, none]) ∧ Ω' = put Ω f ((playD os W n).map .dat)) ?_ ?_
  · refine s_for (fun as i Γ' Ω' => as = rngC n (-1) n ∧ (∃ y z u : Option Av, Γ' = [some (.dat (gmD os W)), some (.dat (.list (linesD os W n))), some (.dat (.int n)), some (.dat (.int ((goPl os W n i).1 : Nat))), some (.ptr f), y, z, u, none]) ∧ Ω' = put Ω f (((goPl os W n i).2.map fun k : Nat => PyData.int (k : Nat)).map .dat)) ?_
    refine i_rngD (a_cons (e_var rfl (a_cons (e_int (a_cons (e_un (e_int (r_neg (a_nil ⟨_, _, rfl, ⟨by omega, by omega, by decide, by decide⟩, ⟨?_, ⟨none, none, none, rfl⟩, rfl⟩, ?_, ?_⟩)))))))))
    · congr 1
    · rintro i it Γ' Ω' hit ⟨eas, ⟨y, z, u, rfl⟩, rfl⟩
      rw [eas] at hit
      obtain ⟨hi, rfl⟩ := rng_at hit
      obtain ⟨g1, g2⟩ := go_in (os := os) hg.1 (n := n) i (by omega)
      have ha := go_any (os := os) hg.1 (n := n) (i := i) hi g1
      have el : (n : Int) + (i : Nat) * (-1) = ((n - i : Nat) : Int) := by omega
      have el1 : ((n - i : Nat) : Int) - 1 = ((n - i - 1 : Nat) : Int) := by omega
      have hnd := hg.1.2.2 _ (getD_in [] g1)
      rw [el]
      have at1 : atI (linesD os W n) (((n - i : Nat) : Int) - 1) = some (lineD (linesF os W (n - i - 1))) := by rw [el1]; exact linesD_at os W (by omega)
      have at2 : atI (linesD os W n) ((n - i : Nat) : Int) = some (lineD (linesF os W (n - i))) := linesD_at os W (by omega)
      have at3 : atI ((linesF os W (n - i)).map PyData.int) ((goPl os W n i).1 : Int) = some (.int ((linesF os W (n - i)).getD (goPl os W n i).1 0)) := by
        have := at_line (l := linesF os W (n - i)) (t := ((goPl os W n i).1 : Int)) (by omega) (by rw [lines_len]; omega)
        rw [Int.toNat_natCast] at this
        exact this
      obtain ⟨ix, hix⟩ : ∃ ix, ix = firstIdx (W.getD (goPl os W n i).1 []) (linesF os W (n - i - 1)) ((linesF os W (n - i)).getD (goPl os W n i).1 0) := ⟨_, rfl⟩
      have atf := at_first0 ha
      have hin := first_in ha
      rw [← hix] at atf hin
      refine g_name (s_seq (s_asg (e_op (e_op (e_var rfl (e_int (r_ixT rfl (e_var rfl (r_ixT (web_at g1) ?_)))))))))
      refine s_seq (s_asg (e_lcF (List.range (W.getD (goPl os W n i).1 []).length) (fun k => .dat (.int (0 + (k : Nat)))) (fun k => decide (sumAt (W.getD (goPl os W n i).1 []) (linesF os W (n - i - 1)) k = (linesF os W (n - i)).getD (goPl os W n i).1 0)) (fun k => .int (0 + (k : Nat))) (gn_name (by decide)) (by rw [List.length_range]; exact Nat.le_trans hnd.2.1 (by decide)) ?_))
      refine i_rng1 (a_cons (e_cb (a_cons (e_var rfl (a_nil (c_lenT (a_nil ⟨_, rfl, ⟨by omega, by rw [List.length_map]; have := hnd.2.1; omega⟩, ⟨?_, fun k Ω' hk _ => g_name ⟨rfl, ?_⟩, ?_⟩⟩)))))))
      · unfold rngA
        rw [List.length_map, Int.toNat_natCast]
      · have hk' := List.mem_range.mp hk
        have hv := hnd.2.2 _ (getD_in (0, 0) hk')
        exact t_test (e_op (e_op (e_op (e_op (e_var rfl (e_var rfl (r_ixT (nd_at0 hk') (e_int (r_ixT rfl (e_op (e_op (e_var rfl (e_op (e_var rfl (e_int (r_I0i (r_ixL at1 (e_op (e_op (e_var rfl (e_var rfl (r_ixT (nd_at0 hk') (e_int (r_ixT rfl (r_ixT (at_line hv.2.2.1 (by rw [lines_len]; exact hv.2.2.2)) (r_I0i (e_op (e_op (e_var rfl (e_var rfl (r_ixL at2 (e_var rfl (r_ixT at3 (r_eq rfl ⟨_, rfl, rfl, rfl, fun _ => e_var rfl ⟨rfl, rfl⟩⟩))))))))))))))))))))))))))))))))))
      refine s_seq (s_drop (e_app (e_var rfl ⟨f, rfl, ⟨_, put_same⟩, a_cons (e_op (e_var rfl (e_int (r_ixL atf (a_nil ⟨_, _, rfl, put_same, by rw [List.length_map, List.length_map, g2]; omega, ?_⟩)))))⟩)))
      refine s_asg (e_op (e_op (e_var rfl (e_op (e_var rfl (e_int (r_ixL atf (r_ixT (nd_at0 hin) (e_int (r_ixT rfl ⟨eas, ?_, ?_⟩))))))))))
      · have h0 := (hnd.2.2 _ (getD_in (0, 0) hin)).2.2.1
        refine ⟨some (.dat (.int ((n - i : Nat)))), some (.dat (ndD (W.getD (goPl os W n i).1 []))), some (.dat (.list ((bestsOf (W.getD (goPl os W n i).1 []) (linesF os W (n - i - 1)) ((linesF os W (n - i)).getD (goPl os W n i).1 0)).map fun k : Nat => .int (0 + (k : Nat))))), ?_⟩
        · show _ = [_, _, _, some (Av.dat (.int ((((W.getD (goPl os W n i).1 []).getD (firstIdx (W.getD (goPl os W n i).1 []) (linesF os W (n - i - 1)) ((linesF os W (n - i)).getD (goPl os W n i).1 0)) (0, 0)).2.toNat : Nat)))), _, _, _, _, _]
          rw [← hix, Int.toNat_of_nonneg h0]
          rfl
      · rw [put_put]
        show _ = put Ω f ((((goPl os W n i).2 ++ [_]).map fun k : Nat => PyData.int (k : Nat)).map .dat)
        rw [← hix, List.map_append, List.map_append, Int.zero_add]
        rfl
    · rintro Γ' Ω' ⟨eas, ⟨y, z, u, rfl⟩, rfl⟩
      refine ⟨⟨_, _, _, _, rfl⟩, ?_⟩
      rw [eas]
      simp only [rngC, List.length_map, List.length_range]
      rfl
  rintro Γ' Ω' ⟨⟨x, y, z, u, rfl⟩, rfl⟩
  exact s_ret (e_var rfl (h f nf))
end
end K14

set_option Elab.async false
set_option linter.all false
set_option maxRecDepth 100000
set_option maxHeartbeats 2000000
namespace K14
open PySem PySem.Spec PyProof.Rows L2 Dat
local macro_rules | `(tactic| trivial) => `(tactic| (first
  | (with_reducible refine s_seq ?_)
  | (with_reducible refine s_asg ?_)
  | (with_reducible refine s_ret ?_)
  | (with_reducible refine s_drop ?_)
  | (with_reducible refine s_next ?_)
  | (with_reducible refine s_retN ?_)
  | (with_reducible refine s_brk ?_)
  | (with_reducible refine s_cont ?_)
  | (with_reducible refine s_if ?_)
  | (with_reducible refine e_int ?_)
  | (with_reducible refine e_str ?_)
  | (with_reducible refine e_bl ?_)
  | (with_reducible refine e_non ?_)
  | (with_reducible refine e_ty ?_)
  | (with_reducible refine e_tupD ?_)
  | (with_reducible refine e_lstD ?_)
  | (with_reducible refine e_op ?_)
  | (with_reducible refine e_un ?_)
  | (with_reducible refine e_then ?_)
  | (with_reducible refine e_cb ?_)
  | (with_reducible refine e_call ?_)
  | (with_reducible refine e_if ?_)
  | (with_reducible refine e_chain ?_)
  | (with_reducible refine e_andV ?_)
  | (with_reducible refine e_orV ?_)
  | (with_reducible refine e_notV ?_)
  | (with_reducible refine a_cons ?_)
  | (with_reducible refine a_nil ?_)
  | (with_reducible refine t_test ?_)
  | (with_reducible refine t_B ?_)
  | (with_reducible refine t_not ?_)
  | (with_reducible refine t_and ?_)
  | (with_reducible refine t_or ?_)
  | (with_reducible refine r_I0i ?_)
  | (with_reducible refine r_I0b ?_)
  | (with_reducible refine r_neg ?_)
  | (with_reducible refine r_isN ?_)
  | (with_reducible refine r_notN ?_)
  | (with_reducible refine c_lenT ?_)
  | (with_reducible refine c_lenL ?_)
  | (with_reducible refine c_intI ?_)
  | (with_reducible refine c_intB ?_)
  | (with_reducible refine c_max2 ?_)
  | (with_reducible refine c_min2 ?_)
  | (with_reducible refine c_abs ?_)
  | (with_reducible refine r_tupL ?_)
  | (with_reducible refine r_tupT ?_)
  | (with_reducible refine c_allM ?_)
  | ((with_reducible apply e_var); (exact rfl))
  | ((with_reducible refine r_eq ?_ ?_); (exact rfl))
  | ((with_reducible refine r_ne ?_ ?_); (exact rfl))
  | (with_reducible refine c_isi kit_int ?_)
  | (with_reducible refine c_isi kit_bool ?_)
  | (with_reducible refine c_isi kit_tuple ?_)
  | (with_reducible refine c_isi kit_list ?_)
  | (with_reducible refine c_isi kit_str ?_)
  | ((with_reducible apply r_ixT); (exact rfl))
  | ((with_reducible apply dats_pack); (iterate 40 (first | exact Dats.nil | apply Dats.cons | skip)); (exact rfl))
  | (with_reducible refine s_asgG ?_) | (with_reducible refine g_name ?_) | ((with_reducible refine g_tup ?_ ?_); (exact rfl)) | (refine gs_nil ?_) | (refine gs_cons ?_) | (with_reducible refine ⟨rfl, ?_⟩)
  | (refine ⟨_, rfl, ?_⟩) | (refine ⟨_, _, rfl, ?_⟩) | (refine ⟨_, _, _, rfl, ?_⟩) | (with_reducible refine ⟨fun _ => ?_, fun _ => ?_⟩) | fail))
/-! ### lines the other way round -/
def neg (x : Int) : Int := -x
theorem maxL_neg {ns : List Int} (h : ns ≠ []) : maxL (ns.map neg) = - minL ns := by
  obtain ⟨h1, h2⟩ := minL_spec h
  symm
  refine maxL_eq (List.mem_map.mpr ⟨_, h1, rfl⟩) fun y hy => ?_
  obtain ⟨z, hz, rfl⟩ := List.mem_map.mp hy
  have := h2 z hz
  show -z ≤ -minL ns
  omega
theorem minL_neg {ns : List Int} (h : ns ≠ []) : minL (ns.map neg) = - maxL ns := by
  obtain ⟨h1, h2⟩ := maxL_spec h
  symm
  refine minL_eq (List.mem_map.mpr ⟨_, h1, rfl⟩) fun y hy => ?_
  obtain ⟨z, hz, rfl⟩ := List.mem_map.mp hy
  have := h2 z hz
  show -maxL ns ≤ -z
  omega
theorem best_neg {b : Bool} {ns : List Int} (h : ns ≠ []) : best (!b) (ns.map neg) = - best b ns := by
  cases b
  · exact minL_neg h
  · exact maxL_neg h
theorem getD_neg (l : List Int) (i : Nat) : (l.map neg).getD i 0 = - l.getD i 0 := by
  rw [List.getD_eq_getElem?_getD, List.getD_eq_getElem?_getD, List.getElem?_map]
  cases l[i]? <;> simp [neg]
theorem sum_neg (l : List Int) (n : Nd) : (n.map fun m => ((-m.1, m.2) : Mv)).map (sumM (l.map neg)) = (n.map (sumM l)).map neg := by
  rw [List.map_map, List.map_map]
  apply List.map_congr_left
  intro m _
  show -m.1 + (l.map neg).getD m.2.toNat 0 = -(m.1 + l.getD m.2.toNat 0)
  rw [getD_neg]
  omega
theorem turn_getD {W : Wb} {k : Nat} (h : k < W.length) : (turnW W).getD k [] = (W.getD k []).map fun m => (-m.1, m.2) := getD_lt [] h
theorem step_neg {os : List Bool} {W : Wb} (hg : GmOk os W) (l : List Int) : stepL (os.map not) (turnW W) (l.map neg) = (stepL os W l).map neg := by
  unfold stepL
  have hl : (turnW W).length = W.length := by simp [turnW]
  rw [hl, List.map_map]
  apply List.map_congr_left
  intro k hk
  have hk' : k < W.length := List.mem_range.mp hk
  have hne : (W.getD k []).map (sumM l) ≠ [] := fun e => by
    have := (hg.1.2.2 _ (getD_in [] hk')).1
    rw [List.map_eq_nil_iff] at e
    rw [e] at this
    simp at this
  show best ((os.map not).getD k true) (((turnW W).getD k []).map (sumM (l.map neg))) = - best (os.getD k true) ((W.getD k []).map (sumM l))
  rw [turn_getD hk', sum_neg, getD_lt true (by rw [hg.2]; exact hk'), best_neg hne]
theorem lines_neg {os : List Bool} {W : Wb} (hg : GmOk os W) : ∀ n, linesF (os.map not) (turnW W) n = (linesF os W n).map neg
  | 0 => by
    show List.replicate (turnW W).length (0 : Int) = (List.replicate W.length (0 : Int)).map neg
    rw [List.map_replicate]
    simp [turnW, neg]
  | n + 1 => by
    show stepL (os.map not) (turnW W) (linesF (os.map not) (turnW W) n) = (stepL os W (linesF os W n)).map neg
    rw [lines_neg hg n, step_neg hg]
theorem turn_turn (W : Wb) : turnW (turnW W) = W := by
  unfold turnW
  rw [List.map_map]
  conv => rhs; rw [← List.map_id W]
  apply List.map_congr_left
  intro n _
  show (n.map fun m => ((-m.1, m.2) : Mv)).map (fun m => (-m.1, m.2)) = n
  rw [List.map_map]
  conv => rhs; rw [← List.map_id n]
  apply List.map_congr_left
  intro m _
  show ((- -m.1, m.2) : Mv) = m
  rw [Int.neg_neg]
theorem not_not (os : List Bool) : (os.map not).map not = os := by
  rw [List.map_map]
  conv => rhs; rw [← List.map_id os]
  apply List.map_congr_left
  intro b _
  exact Bool.not_not b
theorem turn_ok {os : List Bool} {W : Wb} (hg : GmOk os W) : GmOk (os.map not) (turnW W) := by
  obtain ⟨⟨h1, h2, h3⟩, ho⟩ := hg
  have hl : (turnW W).length = W.length := by simp [turnW]
  refine ⟨⟨by rw [hl]; exact h1, by rw [hl]; exact h2, fun n hn => ?_⟩, by rw [List.length_map, hl]; exact ho⟩
  obtain ⟨n0, hn0, rfl⟩ := List.mem_map.mp hn
  obtain ⟨g1, g2, g3⟩ := h3 n0 hn0
  refine ⟨by rw [List.length_map]; exact g1, by rw [List.length_map]; exact g2, fun m hm => ?_⟩
  obtain ⟨m0, hm0, rfl⟩ := List.mem_map.mp hm
  have h5 := g3 m0 hm0
  rw [hl]
  exact ⟨by show -50 ≤ -m0.1; have := h5.2.1; omega, by show -m0.1 ≤ 50; have := h5.1; omega, h5.2.2⟩
/-! ### bounds of lines -/
theorem sum_bd {l : List Int} {n : Nat} {m : Mv} {size : Nat} (hm : MvOk size m) (hl : ∀ y ∈ l, -(50 * n : Int) ≤ y ∧ y ≤ 50 * n) : -(50 * (n + 1 : Nat) : Int) ≤ sumM l m ∧ sumM l m ≤ 50 * (n + 1 : Nat) := by
  have hg : -(50 * n : Int) ≤ l.getD m.2.toNat 0 ∧ l.getD m.2.toNat 0 ≤ 50 * n := by
    rw [List.getD_eq_getElem?_getD]
    cases e : l[m.2.toNat]? with
    | none => exact ⟨by simp; omega, by simp; omega⟩
    | some y => exact hl y (List.mem_of_getElem? e)
  unfold sumM
  have h1 := hm.1
  have h2 := hm.2.1
  omega
theorem lines_bd {os : List Bool} {W : Wb} (hW : WbOk W) : ∀ n, ∀ y ∈ linesF os W n, -(50 * n : Int) ≤ y ∧ y ≤ 50 * n
  | 0, y, hy => by
    have := List.eq_of_mem_replicate (show y ∈ List.replicate W.length 0 from hy)
    subst this
    simp
  | n + 1, y, hy => by
    obtain ⟨k, hk, rfl⟩ := List.mem_map.mp (show y ∈ (List.range W.length).map _ from hy)
    have hk' : k < W.length := List.mem_range.mp hk
    have hnd := hW.2.2 _ (getD_in [] hk')
    have hne : (W.getD k []).map (sumM (linesF os W n)) ≠ [] := fun e => by
      have := hnd.1
      rw [List.map_eq_nil_iff] at e
      rw [e] at this
      simp at this
    obtain ⟨m, hm, e⟩ := List.mem_map.mp (best_mem (b := os.getD k true) hne)
    rw [← e]
    exact sum_bd (hnd.2.2 m hm) (lines_bd hW n)
theorem lines_at {os : List Bool} {W : Wb} (hW : WbOk W) {n : Nat} (hn : n ≤ 12) : ((linesF os W n).getD 0 0).natAbs < 10 ^ 12 := by
  have h0 : 0 < (linesF os W n).length := by
    rw [lines_len]
    exact hW.1
  have := lines_bd hW n _ (getD_in (0 : Int) h0)
  omega
/-! ### data that may be compared, shown -/
structure Lay (d : PyData) (k : Nat) : Prop where
  c : d.canLay0 = true
  k : d.depth ≤ k
theorem layAll : ∀ {ds : List PyData} {k : Nat}, (∀ d ∈ ds, Lay d k) → PyData.canLayAll0 ds = true ∧ PyData.depthAll ds ≤ k
  | [], _, _ => ⟨by simp [PyData.canLayAll0], by simp [PyData.depthAll]⟩
  | d :: r, k, h => by
    have h1 := h d List.mem_cons_self
    have h2 := layAll (ds := r) (k := k) fun y m => h y (List.mem_cons_of_mem _ m)
    refine ⟨by simp [PyData.canLayAll0, h1.c, h2.1], ?_⟩
    simp only [PyData.depthAll]
    exact Nat.max_le.mpr ⟨h1.k, h2.2⟩
theorem Lay.tup {ds : List PyData} {k : Nat} (h : ∀ d ∈ ds, Lay d k) : Lay (.tuple ds) (k + 1) := by
  obtain ⟨a, b⟩ := layAll h
  exact ⟨by simp only [PyData.canLay0, a], by simp only [PyData.depth]; omega⟩
theorem Lay.lst {ds : List PyData} {k : Nat} (h : ∀ d ∈ ds, Lay d k) : Lay (.list ds) (k + 1) := by
  obtain ⟨a, b⟩ := layAll h
  exact ⟨by simp only [PyData.canLay0, a], by simp only [PyData.depth]; omega⟩
theorem Lay.int (i : Int) : Lay (.int i) 0 := ⟨by simp [PyData.canLay0], by simp [PyData.depth]⟩
theorem Lay.mono {d : PyData} {k j : Nat} (h : Lay d k) (l : k ≤ j) : Lay d j := ⟨h.c, Nat.le_trans h.k l⟩
theorem Lay.shaped {d : PyData} {k : Nat} (h : Lay d k) (l : k ≤ 64) : SeqAt.shaped d = true := by
  rw [SeqAt.shaped, Bool.and_eq_true, decide_eq_true_eq]
  exact ⟨h.c, Nat.le_trans h.k l⟩
theorem lay_map {α : Type} {f : α → PyData} {xs : List α} {k : Nat} (h : ∀ x ∈ xs, Lay (f x) k) : ∀ d ∈ xs.map f, Lay d k := fun d hd => by
  obtain ⟨x, hx, rfl⟩ := List.mem_map.mp hd
  exact h x hx
theorem lay_mv (m : Mv) : Lay (mvD m) 1 := Lay.tup fun d hd => by
  simp only [List.mem_cons, List.not_mem_nil, or_false] at hd
  rcases hd with rfl | rfl <;> exact Lay.int _
theorem lay_wb (W : Wb) : Lay (wbD W) 3 := Lay.tup (lay_map fun n _ => Lay.tup (lay_map fun m _ => lay_mv m))
theorem lay_ow (b : Bool) : Lay (owD b) 0 := by cases b <;> exact ⟨by decide +kernel, by decide +kernel⟩
theorem lay_gm (os : List Bool) (W : Wb) : Lay (gmD os W) 4 := Lay.tup fun d hd => by
  simp only [List.mem_cons, List.not_mem_nil, or_false] at hd
  rcases hd with rfl | rfl
  · exact (Lay.tup (lay_map fun b _ => lay_ow b)).mono (by decide)
  · exact lay_wb W
theorem lay_lines (os : List Bool) (W : Wb) (n : Nat) : Lay (.list (linesD os W n)) 2 := Lay.lst (lay_map fun j _ => Lay.tup (lay_map fun i _ => Lay.int i))
theorem lay_play (os : List Bool) (W : Wb) (n : Nat) : Lay (.list (playD os W n)) 1 := Lay.lst (lay_map fun k _ => Lay.int _)
theorem eqv_lay {d : PyData} {k : Nat} (h : Lay d k) : PyData.eqv d d = true := SeqAt.eqv_refl _ h.c
theorem shown_of {d : PyData} {k w : Nat} (h : Shw.Sh d k w) (hk : k ≤ 64) (hw : w ≤ 2 ^ 20) : Shown d := ⟨h.s, fun z => (by rw [h.n] at z; cases z), Nat.le_trans h.k hk, h.fits hw⟩
theorem sh_ow (b : Bool) : Shw.Sh (owD b) 0 40 := by cases b <;> exact ⟨by decide +kernel, by decide +kernel, by decide +kernel, by decide +kernel, by decide +kernel⟩
theorem shown_gm {os : List Bool} {W : Wb} (hg : GmOk os W) : Shown (gmD os W) := by
  obtain ⟨⟨h1, h2, h3⟩, ho⟩ := hg
  have a1 : Shw.Sh (.tuple (os.map owD)) 3 30000 := (Shw.Sh.tup (k := 0) (w := 40) (n := 30) (fun d hd => by
    obtain ⟨b, _, rfl⟩ := List.mem_map.mp hd
    exact sh_ow b) (by rw [List.length_map]; omega)).mono (by decide) (by decide)
  have a2 : Shw.Sh (wbD W) 3 30000 := (Shw.Sh.tup (k := 2) (w := 12 * 83) (n := 30) (fun d hd => by
    obtain ⟨n, hn, rfl⟩ := List.mem_map.mp hd
    have hnd := h3 n hn
    exact Shw.Sh.tup (k := 1) (w := 82) (n := 12) (fun e he => by
      obtain ⟨m, hm, rfl⟩ := List.mem_map.mp he
      have hv := hnd.2.2 m hm
      exact Shw.Sh.tup (k := 0) (w := 40) (n := 2) (fun x hx => by
        simp only [List.mem_cons, List.not_mem_nil, or_false] at hx
        have b1 := hv.1
        have b2 := hv.2.1
        have b3 := hv.2.2.1
        have b4 := hv.2.2.2
        rcases hx with rfl | rfl
        · exact Shw.Sh.int (by omega)
        · exact Shw.Sh.int (by omega)) (by simp)) (by rw [List.length_map]; exact hnd.2.1)) (by rw [List.length_map]; exact h2)).mono (by decide) (by decide)
  refine shown_of (Shw.Sh.tup (k := 3) (w := 30000) (n := 2) (fun d hd => ?_) (by simp)) (by decide) (by decide)
  simp only [List.mem_cons, List.not_mem_nil, or_false] at hd
  rcases hd with rfl | rfl
  · exact a1
  · exact a2
theorem cut_last {xs : List PyData} {x : PyData} : Dat.cutD (xs ++ [x]) none (some (-1 : Int)) = xs := by
  unfold Dat.cutD
  have e : HT.sIx (xs ++ [x]).length (xs ++ [x]).length (some (-1 : Int)) = xs.length := by
    show (-1 + (((xs ++ [x]).length : Nat) : Int)).toNat = _
    rw [List.length_append]
    simp
    omega
  rw [HT.sIx_none, e, List.drop_zero, Nat.sub_zero]
  simp
section
variable {P : Program} {w : World} {K : PySem.W.Frag} {mg : Str → Option Value} {base : Heap}
theorem r_neQ {Ω : AH} {P : Av → AH → Prop} {p : Addr} {ds : List PyData} {e : PyData} (o : Ω p = some (ds.map .dat)) (s1 : SeqAt.shaped e = true) (s2 : SeqAt.shaped (.list ds) = true) (h : P (.dat (.bool (!PyData.eqv e (.list ds)))) Ω) : R2W K (rNeD K) (.dat e) (.ptr p) Ω P := fun F H x y Q k hx hy q => by
  cases hy
  cases hx with | dat hx =>
    exact ⟨e, _, (hx.same Fz_le).dp (shaped_lay s1), (k.listAt o).dp (shaped_lay s2), s1, s2, q _ _ _ _ h k (.dat (.bl _))⟩
abbrev spStR : ASp := fun as Ω P => ∃ (os : List Bool) (W : Wb) (n : Nat), as = [.dat (gmD os W), .dat (.int n)] ∧ GmOk os W ∧ n ≤ 12 ∧ P (.dat (.bool true)) Ω
theorem ok_steps_right (T : Top K mg) : Grd.FnG P w K mg base CX0 9 T.f__law_steps_right T.d__law_steps_right ["_law_match", "_law_num"] (spA K spStR) := by
  have G__law_lines : FnOk P w K mg base CX0 1 T.f__law_lines T.d__law_lines ["_law_match", "_law_num"] (spA K spLinesL) := ok_linesL T
  have G__law_play : FnOk P w K mg base CX0 1 T.f__law_play T.d__law_play ["_law_match", "_law_lines_here", "_law_num"] (spA K spPlayL) := ok_playL T
  have G_steps_lines : FnOk P w K mg base CX0 8 T.f_steps_lines T.d_steps_lines ["game", "count"] (spA K spSl) := ok_steps_lines T
  have G_game_steps : FnOk P w K mg base CX0 8 T.f_game_steps T.d_game_steps ["game", "count"] (spA K spSt) := ok_game_steps T
  have G_steps_play : FnOk P w K mg base CX0 8 T.f_steps_play T.d_steps_play ["game", "count"] (spA K spPl) := ok_steps_play T
  refine fngA_ok T.D__law_steps_right.F sc__law_steps_right (fun as Ω P ⟨os, W, n, e, _⟩ => by subst e; rfl) (fun cdv A outer s H E hr hgd => ?_)
  refine ⟨_, (pss_cons (ps_set (i := 2) sc__law_steps_right.nd rfl (.inl rfl) (pe_call G__law_lines (hr.mono (by omega)) rfl T.D__law_lines.g T.D__law_lines.F.kp T.D__law_lines.b .nil pass0 (pa_cons (pv 0) (pa_cons (pv 1) pa_nil))))
    (pss_cons (ps_set (i := 3) sc__law_steps_right.nd rfl (.inl rfl) (pe_call G_steps_lines (hr.mono (by omega)) rfl T.D_steps_lines.g T.D_steps_lines.F.kp T.D_steps_lines.b .nil pass0 (pa_cons (pv 0) (pa_cons (pv 1) pa_nil))))
    (pss_cons (ps_if (PW.pt (pw_or (pt_not (pt_val (pe_callB (Dat.isiQ (K := K) rfl) rfl T.b_isinstance bt_isinstance (pa_cons (pv 3) (pa_cons (pe_bltn (v := .ty "list") rfl T.b_list bt_list rfl) pa_nil))))) (pw_or (pt_cmpR (Dat.neDQ (K := K) rfl (hu64 hr)) (pv 3) (pv 2) (nomark _)) (pw_or1 (pt_cmpR (Dat.neDQ (K := K) rfl (hu64 hr)) (pe_callN0 G_steps_lines (hr.mono (by omega)) rfl T.D_steps_lines.g T.D_steps_lines.F.kp T.KN_steps_lines__count_game pass0 (pk_cons (pv 1) (pk_cons (pv 0) pk_nil))) (pv 2) (nomark _))))))
      (pss_one (ps_ret pe_bl))
      pss_nil)
    (pss_cons (ps_expr (Dat.appQ (K := K) rfl (pv 3) (pa_cons pe_non pa_nil)))
    (pss_cons (ps_if (PW.pt (pw_or (pt_cmpR op_ne (pe_callB (Dat.reprQ (K := K) rfl hgd (hu100 hr)) rfl T.b_repr bt_repr (pa_cons (pe_call G_game_steps (hr.mono (by omega)) rfl T.D_game_steps.g T.D_game_steps.F.kp T.D_game_steps.b .nil pass0 (pa_cons (pv 0) (pa_cons (pv 1) pa_nil))) pa_nil)) (pe_callB (Dat.reprQ (K := K) rfl hgd (hu100 hr)) rfl T.b_repr bt_repr (pa_cons (pe_ix (Dat.ixT (K := K) rfl) (pe_ix (Dat.ixL (K := K) rfl) (pv 2) (pe_un un_neg pe_int) (fun _ _ => rfl)) pe_int (fun _ _ => rfl)) pa_nil)) (nomark _)) (pw_or1 (pt_cmpR op_ne (pe_callN0 G_game_steps (hr.mono (by omega)) rfl T.D_game_steps.g T.D_game_steps.F.kp T.KN_game_steps__count_game pass0 (pk_cons (pv 1) (pk_cons (pv 0) pk_nil))) (pe_ix (Dat.ixT (K := K) rfl) (pe_ix (Dat.ixL (K := K) rfl) (pv 2) (pe_un un_neg pe_int) (fun _ _ => rfl)) pe_int (fun _ _ => rfl)) (nomark _)))))
      (pss_one (ps_ret pe_bl))
      pss_nil)
    (pss_cons (ps_set (i := 4) sc__law_steps_right.nd rfl (.inl rfl) (pe_call G_steps_play (hr.mono (by omega)) rfl T.D_steps_play.g T.D_steps_play.F.kp T.D_steps_play.b .nil pass0 (pa_cons (pv 0) (pa_cons (pv 1) pa_nil))))
    (pss_cons (ps_if (PW.pt (pw_or (pt_cmpR (Dat.neDQ (K := K) rfl (hu64 hr)) (pv 4) (pe_call G__law_play (hr.mono (by omega)) rfl T.D__law_play.g T.D__law_play.F.kp T.D__law_play.b .nil pass0 (pa_cons (pv 0) (pa_cons (pv 2) (pa_cons (pv 1) pa_nil)))) (nomark _)) (pw_or (pt_not (pt_val (pe_callB (Dat.isiQ (K := K) rfl) rfl T.b_isinstance bt_isinstance (pa_cons (pv 4) (pa_cons (pe_bltn (v := .ty "list") rfl T.b_list bt_list rfl) pa_nil))))) (pw_or1 (pt_cmpR (Dat.neDQ (K := K) rfl (hu64 hr)) (pe_callN0 G_steps_play (hr.mono (by omega)) rfl T.D_steps_play.g T.D_steps_play.F.kp T.KN_steps_play__count_game pass0 (pk_cons (pv 1) (pk_cons (pv 0) pk_nil))) (pv 4) (nomark _))))))
      (pss_one (ps_ret pe_bl))
      pss_nil)
    (pss_cons (ps_expr (Dat.appQ (K := K) rfl (pv 4) (pa_cons pe_non pa_nil)))
    (pss_one (ps_ret (pe_and (pe_cmpR (Dat.eqDQ (K := K) rfl (hu64 hr)) (pe_call G_steps_lines (hr.mono (by omega)) rfl T.D_steps_lines.g T.D_steps_lines.F.kp T.D_steps_lines.b .nil pass0 (pa_cons (pv 0) (pa_cons (pv 1) pa_nil))) (pv 2) (nomark _)) (pe_one (pe_cmpR (Dat.eqDQ (K := K) rfl (hu64 hr)) (pe_call G_steps_play (hr.mono (by omega)) rfl T.D_steps_play.g T.D_steps_play.F.kp T.D_steps_play.b .nil pass0 (pa_cons (pv 0) (pa_cons (pv 1) pa_nil))) (pe_slice (Dat.slL (K := K) rfl) (pv 4) po_none (po_some (pe_un un_neg pe_int))) (nomark _)))))))))))))), ?_⟩
  rintro as Ω P ⟨os, W, n, rfl, hg, hn, h⟩
  have hL := lay_lines os W n
  have hP := lay_play os W n
  have sL := hL.shaped (by decide)
  have sP := hP.shaped (by decide)
  have eL := eqv_lay hL
  have eP := eqv_lay hP
  have h0 : 0 < (linesF os W n).length := by
    rw [lines_len]
    exact hg.1.1
  have alast : atI (linesD os W n) (-1) = some (lineD (linesF os W n)) := at_last _ n
  have afirst : atI ((linesF os W n).map PyData.int) 0 = some (.int ((linesF os W n).getD 0 0)) := at_line (t := 0) (by decide) (by omega)
  have shi : Shown (.int ((linesF os W n).getD 0 0)) := shown_of (Shw.Sh.int (lines_at hg.1 hn)) (by decide) (by decide)
  refine s_seq (s_asg (e_call (a_cons (e_var rfl (a_cons (e_var rfl (a_nil ⟨os, W, n, rfl, hg, hn, ?_⟩)))))))
  refine s_seq (s_asg (e_call (a_cons (e_var rfl (a_cons (e_var rfl (a_nil ⟨os, W, n, rfl, hg, hn, fun f nf => ?_⟩)))))))
  refine s_seq (s_ifB (b := !true || (!true || !true)) (t_orB (t_notB (t_ofB ?_)) fun _ => t_orB (t_ofC ?_) fun _ => t_ofC ?_) nofun fun _ => s_next ?_)
  · exact e_cb (a_cons (e_var rfl (a_cons (e_ty (a_nil (c_isiP put_same (by decide +kernel) ⟨rfl, rfl⟩))))))
  · exact e_op (e_var rfl (e_var rfl (r_neP put_same sL sL ⟨by rw [eL], rfl⟩)))
  · refine e_op (EW.frz (e_callK (a_cons (e_var rfl (a_cons (e_var rfl (a_nil ⟨rfl, os, W, n, rfl, hg, hn, fun p np => ⟨p, linesD os W n, rfl, put_same, ?_⟩⟩)))))))
    rw [del_put np]
    exact e_var rfl (r_neD sL sL ⟨by rw [eL], rfl⟩)
  refine s_seq (s_drop (e_app (e_var rfl ⟨f, rfl, ⟨_, put_same⟩, a_cons (e_non (a_nil ⟨_, _, rfl, put_same, by simp [linesD]; omega, ?_⟩))⟩)))
  show SW K _ _ (put (put Ω f ((linesD os W n).map .dat)) f ((linesD os W n).map Av.dat ++ [.dat .none])) _
  rw [put_put]
  have ef : (linesD os W n).map Av.dat ++ [.dat .none] = (linesD os W n ++ [PyData.none]).map .dat := by rw [List.map_append]; rfl
  rw [ef]
  refine s_forget (p := f) put_same ?_
  rw [del_put nf]
  refine s_seq (s_ifB (b := !true || !true) (t_orB (t_ofC ?_) fun _ => t_ofC ?_) nofun fun _ => s_next ?_)
  · refine e_op (e_cb (a_cons (e_call (a_cons (e_var rfl (a_cons (e_var rfl (a_nil ⟨os, W, n, rfl, hg, hn, a_nil (c_repr shi ?_)⟩))))))))
    exact e_cb (a_cons (e_op (e_op (e_var rfl (e_un (e_int (r_neg (r_ixL alast (e_int (r_ixT afirst (a_nil (c_repr shi (r_ne rfl ⟨by simp [eqD], rfl⟩)))))))))))))
  · refine e_op (e_callK (a_cons (e_var rfl (a_cons (e_var rfl (a_nil ⟨rfl, os, W, n, rfl, hg, hn, ?_⟩))))))
    exact e_op (e_op (e_var rfl (e_un (e_int (r_neg (r_ixL alast (e_int (r_ixT afirst (r_ne rfl ⟨by simp [eqD], rfl⟩)))))))))
  refine s_seq (s_asg (e_call (a_cons (e_var rfl (a_cons (e_var rfl (a_nil ⟨os, W, n, rfl, hg, hn, fun q nq => ?_⟩)))))))
  refine s_seq (s_ifB (b := !true || (!true || !true)) (t_orB (t_ofC ?_) fun _ => t_orB (t_notB (t_ofB ?_)) fun _ => t_ofC ?_) nofun fun _ => s_next ?_)
  · refine e_op (e_var rfl (EW.frz (e_call (a_cons (e_var rfl (a_cons (e_var rfl (a_cons (e_var rfl (a_nil ⟨os, W, n, rfl, hg, hn, fun p np => ⟨p, playD os W n, rfl, put_same, ?_⟩⟩))))))))))
    rw [del_put np]
    exact r_neP put_same sP sP ⟨by rw [eP], rfl⟩
  · exact e_cb (a_cons (e_var rfl (a_cons (e_ty (a_nil (c_isiP put_same (by decide +kernel) ⟨rfl, rfl⟩))))))
  · refine e_op (EW.frz (e_callK (a_cons (e_var rfl (a_cons (e_var rfl (a_nil ⟨rfl, os, W, n, rfl, hg, hn, fun p np => ⟨p, playD os W n, rfl, put_same, ?_⟩⟩)))))))
    rw [del_put np]
    exact e_var rfl (r_neQ put_same sP sP ⟨by rw [eP], rfl⟩)
  have lpl : (playD os W n).length = n := by
    unfold playD
    rw [List.length_map]
    exact (go_in hg.1 n (Nat.le_refl n)).2
  refine s_seq (s_drop (e_app (e_var rfl ⟨q, rfl, ⟨_, put_same⟩, a_cons (e_non (a_nil ⟨_, _, rfl, put_same, by rw [List.length_map, lpl]; omega, ?_⟩))⟩)))
  show SW K _ _ (put (put Ω q ((playD os W n).map .dat)) q ((playD os W n).map Av.dat ++ [.dat .none])) _
  rw [put_put]
  have ep : (playD os W n).map Av.dat ++ [.dat .none] = (playD os W n ++ [PyData.none]).map .dat := by rw [List.map_append]; rfl
  rw [ep]
  refine s_ret (e_andV (e_op (EW.frz (e_call (a_cons (e_var rfl (a_cons (e_var rfl (a_nil ⟨os, W, n, rfl, hg, hn, fun p np => ⟨p, linesD os W n, rfl, put_same, ?_⟩⟩)))))))))
  rw [del_put np]
  refine e_var rfl (r_eqD sL sL ⟨_, rfl, fun _ => ?_, fun z => ?_⟩)
  · refine e_op (EW.frz (e_call (a_cons (e_var rfl (a_cons (e_var rfl (a_nil ⟨os, W, n, rfl, hg, hn, fun p np => ⟨p, playD os W n, rfl, put_same, ?_⟩⟩)))))))
    rw [del_put np]
    refine e_slL (EW.frz (e_var rfl ⟨q, _, rfl, put_same, _, rfl, o_no (o_some (e_un (e_int (r_neg ⟨_, rfl, ?_⟩))))⟩))
    rw [del_put nq, cut_last]
    refine r_eqD sP sP ?_
    rw [eP]
    exact h
  · rw [eL] at z
    cases z
end
end K14

set_option Elab.async false
set_option linter.all false
set_option maxRecDepth 100000
set_option maxHeartbeats 2000000
namespace K14
open PySem PySem.Spec PyProof.Rows L2 Dat
local macro_rules | `(tactic| trivial) => `(tactic| (first
  | (with_reducible refine s_seq ?_)
  | (with_reducible refine s_asg ?_)
  | (with_reducible refine s_ret ?_)
  | (with_reducible refine s_drop ?_)
  | (with_reducible refine s_next ?_)
  | (with_reducible refine s_retN ?_)
  | (with_reducible refine s_brk ?_)
  | (with_reducible refine s_cont ?_)
  | (with_reducible refine s_if ?_)
  | (with_reducible refine e_int ?_)
  | (with_reducible refine e_str ?_)
  | (with_reducible refine e_bl ?_)
  | (with_reducible refine e_non ?_)
  | (with_reducible refine e_ty ?_)
  | (with_reducible refine e_tupD ?_)
  | (with_reducible refine e_lstD ?_)
  | (with_reducible refine e_op ?_)
  | (with_reducible refine e_un ?_)
  | (with_reducible refine e_then ?_)
  | (with_reducible refine e_cb ?_)
  | (with_reducible refine e_call ?_)
  | (with_reducible refine e_if ?_)
  | (with_reducible refine e_chain ?_)
  | (with_reducible refine e_andV ?_)
  | (with_reducible refine e_orV ?_)
  | (with_reducible refine e_notV ?_)
  | (with_reducible refine a_cons ?_)
  | (with_reducible refine a_nil ?_)
  | (with_reducible refine t_test ?_)
  | (with_reducible refine t_B ?_)
  | (with_reducible refine t_not ?_)
  | (with_reducible refine t_and ?_)
  | (with_reducible refine t_or ?_)
  | (with_reducible refine r_I0i ?_)
  | (with_reducible refine r_I0b ?_)
  | (with_reducible refine r_neg ?_)
  | (with_reducible refine r_isN ?_)
  | (with_reducible refine r_notN ?_)
  | (with_reducible refine c_lenT ?_)
  | (with_reducible refine c_lenL ?_)
  | (with_reducible refine c_intI ?_)
  | (with_reducible refine c_intB ?_)
  | (with_reducible refine c_max2 ?_)
  | (with_reducible refine c_min2 ?_)
  | (with_reducible refine c_abs ?_)
  | (with_reducible refine r_tupL ?_)
  | (with_reducible refine r_tupT ?_)
  | (with_reducible refine c_allM ?_)
  | ((with_reducible apply e_var); (exact rfl))
  | ((with_reducible refine r_eq ?_ ?_); (exact rfl))
  | ((with_reducible refine r_ne ?_ ?_); (exact rfl))
  | (with_reducible refine c_isi kit_int ?_)
  | (with_reducible refine c_isi kit_bool ?_)
  | (with_reducible refine c_isi kit_tuple ?_)
  | (with_reducible refine c_isi kit_list ?_)
  | (with_reducible refine c_isi kit_str ?_)
  | ((with_reducible apply r_ixT); (exact rfl))
  | ((with_reducible apply dats_pack); (iterate 40 (first | exact Dats.nil | apply Dats.cons | skip)); (exact rfl))
  | (with_reducible refine s_asgG ?_) | (with_reducible refine g_name ?_) | ((with_reducible refine g_tup ?_ ?_); (exact rfl)) | (refine gs_nil ?_) | (refine gs_cons ?_) | (with_reducible refine ⟨rfl, ?_⟩)
  | (refine ⟨_, rfl, ?_⟩) | (refine ⟨_, _, rfl, ?_⟩) | (refine ⟨_, _, _, rfl, ?_⟩) | (with_reducible refine ⟨fun _ => ?_, fun _ => ?_⟩) | fail))
abbrev csR : Scope := { kind := .function, names := [(".0", .local), ("_law_node", .local), ("tuple", .globalImplicit)], isGenerator := false, isCoroutine := false }
section
variable {P : Program} {w : World} {K : PySem.W.Frag} {mg : Str → Option Value} {base : Heap}
abbrev spRight : ASp := fun as Ω P => ∃ (Ω0 : AH) (p : Addr) (a b : Int), as = [.ptr p] ∧ Ω = put Ω0 p (deckL a b 0) ∧ ∀ Ω', P (.dat (.bool true)) Ω'
theorem gm_turn (os : List Bool) (W : Wb) : gmD (os.map not) (turnW W) = .tuple [.tuple (os.map fun b => owD (!b)), .tuple (W.map fun n => ndD (n.map fun m => (-m.1, m.2)))] := by
  unfold gmD wbD turnW
  rw [List.map_map, List.map_map]
  rfl
theorem ok_right (T : Top K mg) : Grd.FnG P w K mg base CX0 10 T.f__law_right T.d__law_right ["_law_deck"] (spA K spRight) := by
  have G__law_draw : FnOk P w K mg base CX0 1 T.f__law_draw T.d__law_draw ["_law_deck", "_law_many"] (spA K spDraw) := ok_draw T
  have G__law_game : FnOk P w K mg base CX0 3 T.f__law_game T.d__law_game ["_law_deck", "_law_many", "_law_moves", "_law_most"] (spA K spGame) := ok_game T
  have G__law_drawn : FnOk P w K mg base CX0 2 T.f__law_drawn T.d__law_drawn ["_law_deck", "_law_match", "_law_side"] (spA K spDrawn) := ok_drawn T
  have G_held : FnOk P w K mg base CX0 8 T.f_held T.d_held ["game", "owner", "way"] (spA K spHeld) := ok_held T
  have G__law_held : FnOk P w K mg base CX0 1 T.f__law_held T.d__law_held ["_law_match", "_law_side", "_law_path"] (spA K spHeldL) := ok_heldL T
  have G_game_turned : FnOk P w K mg base CX0 8 T.f_game_turned T.d_game_turned ["game"] (spA K spTg) := ok_game_turned T
  have G_game_steps : FnOk P w K mg base CX0 8 T.f_game_steps T.d_game_steps ["game", "count"] (spA K spSt) := ok_game_steps T
  have G__law_steps_right : Grd.FnG P w K mg base CX0 9 T.f__law_steps_right T.d__law_steps_right ["_law_match", "_law_num"] (spA K spStR) := ok_steps_right T
  refine fngA_ok T.D__law_right.F sc__law_right (fun as Ω P ⟨Ω0, p, a, b, e, _⟩ => by subst e; rfl) (fun cdv A outer s H E hr hgd => ?_)
  refine ⟨_, (pss_cons (ps_asg (pe_ix (Dat.ixL (K := K) rfl) (pe_lst (pa_cons (pe_tup (pa_cons pe_int (pa_cons pe_int pa_nil))) (pa_cons (pe_tup (pa_cons pe_int (pa_cons pe_int pa_nil))) (pa_cons (pe_tup (pa_cons pe_int (pa_cons pe_int pa_nil))) (pa_cons (pe_tup (pa_cons pe_int (pa_cons pe_int pa_nil))) pa_nil))))) (pe_call G__law_draw (hr.mono (by omega)) rfl T.D__law_draw.g T.D__law_draw.F.kp T.D__law_draw.b .nil pass0 (pa_cons (pv 0) (pa_cons pe_int pa_nil))) (fun _ _ => rfl)) (Dat.pgT (K := K) (n := 2) rfl rfl (pgs_cons (pg_name (i := 1) sc__law_right.nd rfl (.inl rfl)) (pgs_cons (pg_name (i := 2) sc__law_right.nd rfl (.inl rfl)) pgs_nil))))
    (pss_cons (ps_set (i := 3) sc__law_right.nd rfl (.inl rfl) (pe_call G__law_game (hr.mono (by omega)) rfl T.D__law_game.g T.D__law_game.F.kp T.D__law_game.b .nil pass0 (pa_cons (pv 0) (pa_cons (pv 1) (pa_cons (pv 2) (pa_cons (pe_ix (Dat.ixL (K := K) rfl) (pe_lst (pa_cons pe_int (pa_cons pe_int pa_nil))) (pe_call G__law_draw (hr.mono (by omega)) rfl T.D__law_draw.g T.D__law_draw.F.kp T.D__law_draw.b .nil pass0 (pa_cons (pv 0) (pa_cons pe_int pa_nil))) (fun _ _ => rfl)) pa_nil))))))
    (pss_cons (ps_asg (pv 3) (Dat.pgT (K := K) (n := 2) rfl rfl (pgs_cons (pg_name (i := 4) sc__law_right.nd rfl (.inl rfl)) (pgs_cons (pg_name (i := 5) sc__law_right.nd rfl (.inl rfl)) pgs_nil))))
    (pss_cons (ps_set (i := 6) sc__law_right.nd rfl (.inl rfl) (pe_callB (Dat.reprQ (K := K) rfl hgd (hu100 hr)) rfl T.b_repr bt_repr (pa_cons (pv 3) pa_nil)))
    (pss_cons (ps_for PassesOwn.never rfl (Dat.piL (K := K) rfl (pe_lst (pa_cons pe_str (pa_cons pe_str pa_nil)))) (pg_name (i := 7) sc__law_right.nd rfl (.inl rfl))
      (pss_cons (ps_set (i := 8) sc__law_right.nd rfl (.inl rfl) (pe_call G__law_drawn (hr.mono (by omega)) rfl T.D__law_drawn.g T.D__law_drawn.F.kp T.D__law_drawn.b .nil pass0 (pa_cons (pv 0) (pa_cons (pv 3) (pa_cons (pv 7) pa_nil)))))
      (pss_cons (ps_set (i := 9) sc__law_right.nd rfl (.inl rfl) (pe_call G_held (hr.mono (by omega)) rfl T.D_held.g T.D_held.F.kp T.D_held.b .nil pass0 (pa_cons (pv 3) (pa_cons (pv 7) (pa_cons (pv 8) pa_nil)))))
      (pss_one (ps_if (PW.pt (pw_or (pt_cmpR (Dat.neDQ (K := K) rfl (hu64 hr)) (pv 9) (pe_call G__law_held (hr.mono (by omega)) rfl T.D__law_held.g T.D__law_held.F.kp T.D__law_held.b .nil pass0 (pa_cons (pv 3) (pa_cons (pv 7) (pa_cons (pv 8) pa_nil)))) (nomark _)) (pw_or1 (pt_cmpR (Dat.neDQ (K := K) rfl (hu64 hr)) (pe_callN0 G_held (hr.mono (by omega)) rfl T.D_held.g T.D_held.F.kp T.KN_held__way_owner_game pass0 (pk_cons (pv 8) (pk_cons (pv 7) (pk_cons (pv 3) pk_nil)))) (pv 9) (nomark _)))))
        (pss_one (ps_ret pe_bl))
        pss_nil)))))
    (pss_cons (ps_set (i := 10) sc__law_right.nd rfl (.inl rfl) (Dat.pe_tupleK (K := K) rfl rfl T.b_tuple (pe_lc (own := [("_law_side", 7)]) (g := (gName 7)) (tt := tYes) rfl sc__law_right.nd (Dat.piT (K := K) rfl (pv 4)) (blkOk_by (N := N__law_right) (sc := defScope s__law_right) (by decide +kernel)) (fun _ _ _ _ _ => (pg_name (i := 7) sc__law_right.nd rfl (Or.inl rfl))) (fun _ _ _ _ _ => pts_nil) (fun _ _ _ _ _ => (pe_ix (Dat.ixL (K := K) rfl) (pe_lst (pa_cons pe_str (pa_cons pe_str pa_nil))) (pe_callTy Dat.cl_int rfl T.b_int bt_int (pa_cons (pe_cmpR op_eq (pv 7) pe_str (nomark _)) pa_nil)) (fun _ _ => rfl))))))
    (pss_cons (ps_set (i := 11) sc__law_right.nd rfl (.inl rfl) (pe_tup (pa_cons (pv 10) (pa_cons (Dat.pe_tupleK (K := K) rfl rfl T.b_tuple (pe_lc (own := [("_law_node", 14)]) (g := (gName 14)) (tt := tYes) rfl sc__law_right.nd (Dat.piT (K := K) rfl (pv 5)) (blkOk_by (N := N__law_right) (sc := defScope s__law_right) (by decide +kernel)) (fun _ _ _ _ _ => (pg_name (i := 14) sc__law_right.nd rfl (Or.inl rfl))) (fun _ _ _ _ _ => pts_nil) (fun _ _ _ _ _ => (Dat.pe_tupleK (K := K) rfl rfl T.b_tuple (pe_lc (own := [("_law_weight", 12), ("_law_target", 13)]) (g := (gTup K 2 (gCons (gName 12) (gCons (gName 13) gNil)))) (tt := tYes) rfl sc__law_right.nd (Dat.piT (K := K) rfl (pv 14)) (blkOk_by (N := N__law_right) (sc := csR) (by decide +kernel)) (fun _ _ _ _ _ => (Dat.pgT (K := K) (n := 2) rfl rfl (pgs_cons (pg_name (i := 12) sc__law_right.nd rfl (Or.inl rfl)) (pgs_cons (pg_name (i := 13) sc__law_right.nd rfl (Or.inl rfl)) pgs_nil)))) (fun _ _ _ _ _ => pts_nil) (fun _ _ _ _ _ => (pe_tup (pa_cons (pe_un un_neg (pv 12)) (pa_cons (pv 13) pa_nil))))))))) pa_nil))))
    (pss_cons (ps_if (PW.pt (pw_or (pt_cmpR (Dat.neDQ (K := K) rfl (hu64 hr)) (pe_call G_game_turned (hr.mono (by omega)) rfl T.D_game_turned.g T.D_game_turned.F.kp T.D_game_turned.b .nil pass0 (pa_cons (pv 3) pa_nil)) (pv 11) (nomark _)) (pw_or1 (pt_cmpR (Dat.neDQ (K := K) rfl (hu64 hr)) (pe_callN0 G_game_turned (hr.mono (by omega)) rfl T.D_game_turned.g T.D_game_turned.F.kp T.KN_game_turned__game pass0 (pk_cons (pv 11) pk_nil)) (pv 3) (nomark _)))))
      (pss_one (ps_ret pe_bl))
      pss_nil)
    (pss_cons (ps_for PassesOwn.never rfl (Dat.piL (K := K) rfl (pe_lst (pa_cons pe_int (pa_cons pe_int (pa_cons (pe_call G__law_draw (hr.mono (by omega)) rfl T.D__law_draw.g T.D__law_draw.F.kp T.D__law_draw.b .nil pass0 (pa_cons (pv 0) (pa_cons pe_int pa_nil))) (pa_cons pe_int pa_nil)))))) (pg_name (i := 15) sc__law_right.nd rfl (.inl rfl))
      (pss_one (ps_if (PW.pt (pw_or (pt_not (pt_val (Grd.pe_callG G__law_steps_right (hr.mono (by omega)) (Nat.le_refl _) hgd rfl T.D__law_steps_right.g T.D__law_steps_right.F.kp T.D__law_steps_right.b pass0 (pa_cons (pv 3) (pa_cons (pv 15) pa_nil))))) (pw_or1 (pt_cmpR op_ne (pe_call G_game_steps (hr.mono (by omega)) rfl T.D_game_steps.g T.D_game_steps.F.kp T.D_game_steps.b .nil pass0 (pa_cons (pv 11) (pa_cons (pv 15) pa_nil))) (pe_un un_neg (pe_call G_game_steps (hr.mono (by omega)) rfl T.D_game_steps.g T.D_game_steps.F.kp T.D_game_steps.b .nil pass0 (pa_cons (pv 3) (pa_cons (pv 15) pa_nil)))) (nomark _)))))
        (pss_one (ps_ret pe_bl))
        pss_nil)))
    (pss_one (ps_ret (pe_cmpR op_eq (pe_callB (Dat.reprQ (K := K) rfl hgd (hu100 hr)) rfl T.b_repr bt_repr (pa_cons (pv 3) pa_nil)) (pv 6) (nomark _))))))))))))), ?_⟩
  rintro as Ω P ⟨Ω0, p, a, b, rfl, rfl, h⟩
  refine s_seqM (fun Γ' Ω' => ∃ (mn mv a b c : Int), (1 ≤ mn ∧ mn ≤ 30) ∧ (1 ≤ mv ∧ mv ≤ 12) ∧ (0 ≤ c ∧ c ≤ 1) ∧ Γ' = [some (.ptr p), some (.dat (.int mn)), some (.dat (.int mv)), none, none, none, none, none, none, none, none, none, none, none, none, none] ∧ Ω' = put Ω0 p (deckL a b c)) ?_ ?_
  · refine s_asgG (e_op (e_lstD (a_cons (e_tupD (a_cons (e_int (a_cons (e_int (a_nil ⟨_, .cons (.cons .nil), rfl, ?_⟩)))))))))
    refine a_cons (e_tupD (a_cons (e_int (a_cons (e_int (a_nil ⟨_, .cons (.cons .nil), rfl, ?_⟩))))))
    refine a_cons (e_tupD (a_cons (e_int (a_cons (e_int (a_nil ⟨_, .cons (.cons .nil), rfl, ?_⟩))))))
    refine a_cons (e_tupD (a_cons (e_int (a_cons (e_int (a_nil ⟨_, .cons (.cons .nil), rfl, a_nil ⟨_, .cons (.cons (.cons (.cons .nil))), rfl, ?_⟩⟩))))))
    refine e_drawN rfl (by decide) (by decide) (by decide) (by decide) fun v a b c v0 v1 c0 c1 => r_ixL_any v0 v1 fun d hd => ?_
    obtain ⟨x, y, rfl, hx, hy⟩ : ∃ x y : Int, d = .tuple [.int x, .int y] ∧ (1 ≤ x ∧ x ≤ 30) ∧ (1 ≤ y ∧ y ≤ 12) := by
      simp only [List.mem_cons, List.not_mem_nil, or_false] at hd
      rcases hd with rfl | rfl | rfl | rfl
      · exact ⟨8, 4, rfl, by decide, by decide⟩
      · exact ⟨8, 4, rfl, by decide, by decide⟩
      · exact ⟨8, 4, rfl, by decide, by decide⟩
      · exact ⟨30, 12, rfl, by decide, by decide⟩
    exact g_tup rfl (gs_cons (g_name ⟨rfl, gs_cons (g_name ⟨rfl, gs_nil ⟨x, y, a, b, c, hx, hy, ⟨c0, by omega⟩, rfl, rfl⟩⟩)⟩))
  rintro Γ' Ω' ⟨mn, mv, a, b, c, hmn, hmv, ⟨c0, c1⟩, rfl, rfl⟩
  refine s_seqM (fun Γ' Ω' => ∃ (os : List Bool) (W : Wb) (a b c : Int), GmOk os W ∧ (0 ≤ c ∧ c ≤ 4000) ∧ Γ' = [some (.ptr p), some (.dat (.int mn)), some (.dat (.int mv)), some (.dat (gmD os W)), none, none, none, none, none, none, none, none, none, none, none, none] ∧ Ω' = put Ω0 p (deckL a b c)) ?_ ?_
  · refine s_asg (e_call (a_cons (e_var rfl (a_cons (e_var rfl (a_cons (e_var rfl (a_cons (e_op (e_lits [2, 50] (e_drawN rfl (by decide) (by decide) c0 (by omega) fun v a b c v0 v1 d0 d1 => r_ixL_ints 2 50 rfl (by decide) v0 v1 fun n n0 n1 => a_nil ⟨Ω0, p, mn, mv, n, a, b, c, rfl, rfl, ⟨d0, by omega⟩, hmn, hmv, ⟨by omega, n1⟩, fun os W a b c hg e0 e1 => ⟨os, W, a, b, c, hg, ⟨e0, by omega⟩, rfl, rfl⟩⟩)))))))))))
  rintro Γ' Ω' ⟨os, W, a, b, c, hg, ⟨c0, c1⟩, rfl, rfl⟩
  have lg := lay_gm os W
  have sg := lg.shaped (by decide)
  have eg := eqv_lay lg
  have lt := lay_gm (os.map not) (turnW W)
  have st := lt.shaped (by decide)
  have et := eqv_lay lt
  have hgt := turn_ok hg
  have shg := shown_gm hg
  refine s_seq (s_asgG (e_var rfl (g_tup rfl (gs_cons (g_name ⟨rfl, gs_cons (g_name ⟨rfl, gs_nil ?_⟩)⟩)))))
  refine s_seq (s_asg (e_cb (a_cons (e_var rfl (a_nil (c_repr shg ?_))))))
  refine s_seqM (fun Γ' Ω' => ∃ (x y z : Option Av) (a b c : Int), (0 ≤ c ∧ c ≤ 4100) ∧ Γ' = [some (.ptr p), some (.dat (.int mn)), some (.dat (.int mv)), some (.dat (gmD os W)), some (.dat (.tuple (os.map owD))), some (.dat (wbD W)), some (.dat (.str (gmD os W).shown)), x, y, z, none, none, none, none, none, none] ∧ Ω' = put Ω0 p (deckL a b c)) ?_ ?_
  · refine s_for (fun as i Γ' Ω' => as = [.dat (.str "house"), .dat (.str "guests")] ∧ ∃ (x y z : Option Av) (a b c : Int), (0 ≤ c ∧ c ≤ 4000 + 30 * i) ∧ Γ' = [some (.ptr p), some (.dat (.int mn)), some (.dat (.int mv)), some (.dat (gmD os W)), some (.dat (.tuple (os.map owD))), some (.dat (wbD W)), some (.dat (.str (gmD os W).shown)), x, y, z, none, none, none, none, none, none] ∧ Ω' = put Ω0 p (deckL a b c)) ?_
    refine i_list (e_lstD (a_cons (e_str (a_cons (e_str (a_nil ⟨_, .cons (.cons .nil), rfl, _, rfl, ⟨rfl, none, none, none, a, b, c, ⟨c0, by omega⟩, rfl, rfl⟩, ?_, ?_⟩))))))
    · rintro i it Γ' Ω' hit ⟨eas, x, y, z, a, b, c, ⟨d0, d1⟩, rfl, rfl⟩
      have hi : i < 2 := (List.getElem?_eq_some_iff.mp hit).1
      obtain ⟨side, rfl⟩ : ∃ side : Bool, it = .dat (owD side) := by
        match i, hi, hit with
        | 0, _, hit => cases hit; exact ⟨true, rfl⟩
        | 1, _, hit => cases hit; exact ⟨false, rfl⟩
      refine g_name (s_seq (s_asg (e_call (a_cons (e_var rfl (a_cons (e_var rfl (a_cons (e_var rfl (a_nil ⟨Ω0, p, side, os, W, a, b, c, rfl, rfl, hg, ⟨d0, by omega⟩, fun ws a b c hws e0 e1 => ?_⟩))))))))))
      have lh := lay_wb (heldW W ws)
      have sh := lh.shaped (by decide)
      have eh := eqv_lay lh
      refine s_seq (s_asg (e_call (a_cons (e_var rfl (a_cons (e_var rfl (a_cons (e_var rfl (a_nil ⟨side, os, W, ws, rfl, hg, hws, ?_⟩)))))))))
      refine s_ifB (b := !true || !true) (t_orB (t_ofC ?_) fun _ => t_ofC ?_) nofun fun _ => s_next ⟨eas, _, _, _, a, b, c, ⟨e0, by omega⟩, rfl, rfl⟩
      · exact e_op (e_var rfl (e_call (a_cons (e_var rfl (a_cons (e_var rfl (a_cons (e_var rfl (a_nil ⟨side, os, W, ws, rfl, hg, hws, r_neD sh sh ⟨by rw [eh], rfl⟩⟩)))))))))
      · exact e_op (e_callK (a_cons (e_var rfl (a_cons (e_var rfl (a_cons (e_var rfl (a_nil ⟨rfl, side, os, W, ws, rfl, hg, hws, e_var rfl (r_neD sh sh ⟨by rw [eh], rfl⟩)⟩))))))))
    · rintro Γ' Ω' ⟨eas, x, y, z, a, b, c, ⟨d0, d1⟩, rfl, rfl⟩
      refine ⟨x, y, z, a, b, c, ⟨d0, ?_⟩, rfl, rfl⟩
      rw [eas] at d1
      simp at d1
      omega
  rintro Γ' Ω' ⟨x, y, z, a, b, c, ⟨d0, d1⟩, rfl, rfl⟩
  refine s_seq (s_asg (e_then (e_lcM os (fun b => .dat (owD b)) (fun b => owD (!b)) (gn_name (by decide)) (by rw [hg.2]; exact Nat.le_trans hg.1.2.1 (by decide)) ?_)))
  refine i_tup (e_var rfl ⟨_, rfl, ?_, fun b Ω' hb _ => g_name ⟨rfl, ?_⟩, r_tupL ?_⟩)
  · rw [List.map_map]
    rfl
  · refine e_op (e_lstD (a_cons (e_str (a_cons (e_str (a_nil ⟨_, .cons (.cons .nil), rfl, e_cb (a_cons (e_op (e_var rfl (e_str (r_eq (by cases b <;> rfl) (a_nil (c_intB ?_)))))))⟩))))))
    cases b
    · exact r_ixL (d := .str "house") rfl ⟨rfl, rfl⟩
    · exact r_ixL (d := .str "guests") rfl ⟨rfl, rfl⟩
  refine s_seq (s_asg (e_tupD (a_cons (e_var rfl (a_cons (e_then (e_lcM W (fun n => .dat (ndD n)) (fun n => ndD (n.map fun m => (-m.1, m.2))) (gn_name (by decide)) (Nat.le_trans hg.1.2.1 (by decide)) ?_)))))))
  refine i_tup (e_var rfl ⟨_, rfl, ?_, fun n Ω' hn _ => g_name ⟨rfl, ?_⟩, r_tupL (a_nil ⟨_, .cons (.cons .nil), rfl, ?_⟩)⟩)
  · rw [List.map_map]
    rfl
  · have hn2 := (hg.1.2.2 n hn).2.1
    refine e_then (e_lcM n (fun m => .dat (mvD m)) (fun m => mvD (-m.1, m.2)) (gn_tup (gns_cons (gn_name (by decide)) (gns_cons (gn_name (by decide)) gns_nil))) (by omega) ?_)
    refine i_tup (e_var rfl ⟨_, rfl, ?_, fun m Ω' hm _ => g_tup rfl (gs_cons (g_name ⟨rfl, gs_cons (g_name ⟨rfl, gs_nil ⟨rfl, ?_⟩⟩)⟩)), r_tupL ⟨rfl, ?_⟩⟩)
    · rw [List.map_map]
      rfl
    · exact e_tupD (a_cons (e_un (e_var rfl (r_neg (a_cons (e_var rfl (a_nil ⟨_, .cons (.cons .nil), rfl, rfl, rfl⟩)))))))
    · show _ = Av.dat (ndD _)
      unfold ndD
      rw [List.map_map]
      rfl
  rw [← gm_turn]
  refine s_seq (s_ifB (b := !true || !true) (t_orB (t_ofC ?_) fun _ => t_ofC ?_) nofun fun _ => s_next ?_)
  · exact e_op (e_call (a_cons (e_var rfl (a_nil ⟨os, W, rfl, hg, e_var rfl (r_neD st st ⟨by rw [et], rfl⟩)⟩))))
  · refine e_op (e_callK (a_cons (e_var rfl (a_nil ⟨rfl, os.map not, turnW W, rfl, hgt, ?_⟩))))
    rw [turn_turn, not_not]
    exact e_var rfl (r_neD sg sg ⟨by rw [eg], rfl⟩)
  refine s_seqM (fun Γ' Ω' => ∃ (x y z u u2 u3 u4 : Option Av), Γ' = [some (.ptr p), some (.dat (.int mn)), some (.dat (.int mv)), some (.dat (gmD os W)), some (.dat (.tuple (os.map owD))), some (.dat (wbD W)), some (.dat (.str (gmD os W).shown)), x, y, z, u, some (.dat (gmD (os.map not) (turnW W))), u2, u3, u4, none] ∨ ∃ v, Γ' = [some (.ptr p), some (.dat (.int mn)), some (.dat (.int mv)), some (.dat (gmD os W)), some (.dat (.tuple (os.map owD))), some (.dat (wbD W)), some (.dat (.str (gmD os W).shown)), x, y, z, u, some (.dat (gmD (os.map not) (turnW W))), u2, u3, u4, v]) ?_ ?_
  · refine s_for (fun as i Γ' Ω' => (∀ it ∈ as, ∃ n : Nat, it = .dat (.int n) ∧ n ≤ 12) ∧ ∃ (x y z u u2 u3 u4 v : Option Av), Γ' = [some (.ptr p), some (.dat (.int mn)), some (.dat (.int mv)), some (.dat (gmD os W)), some (.dat (.tuple (os.map owD))), some (.dat (wbD W)), some (.dat (.str (gmD os W).shown)), x, y, z, u, some (.dat (gmD (os.map not) (turnW W))), u2, u3, u4, v]) ?_
    refine i_list (e_lstD (a_cons (e_int (a_cons (e_int (a_cons (e_drawN rfl (by decide) (by decide) d0 (by omega) fun v a b c v0 v1 _ _ => a_cons (e_int (a_nil ⟨_, .cons (.cons (.cons (.cons .nil))), rfl, _, rfl, ⟨fun it hit => ?_, _, _, _, _, _, _, _, _, rfl⟩, ?_, ?_⟩)))))))))
    · simp only [List.map_cons, List.map_nil, List.mem_cons, List.not_mem_nil, or_false] at hit
      rcases hit with rfl | rfl | rfl | rfl
      · exact ⟨0, rfl, by decide⟩
      · exact ⟨1, rfl, by decide⟩
      · exact ⟨v.toNat, by rw [Int.toNat_of_nonneg v0], by omega⟩
      · exact ⟨12, rfl, by decide⟩
    · rintro i it Γ' Ω' hit ⟨hall, x, y, z, u, u2, u3, u4, v, rfl⟩
      obtain ⟨n, rfl, hn⟩ := hall it (List.mem_of_getElem? hit)
      refine g_name (s_ifB (b := !true || !true) (t_orB (t_notB (t_ofB ?_)) fun _ => t_ofC ?_) nofun fun _ => s_next ⟨hall, x, y, z, u, u2, u3, u4, _, rfl⟩)
      · exact e_call (a_cons (e_var rfl (a_cons (e_var rfl (a_nil ⟨os, W, n, rfl, hg, hn, rfl, rfl⟩)))))
      · refine e_op (e_call (a_cons (e_var rfl (a_cons (e_var rfl (a_nil ⟨os.map not, turnW W, n, rfl, hgt, hn, ?_⟩))))))
        refine e_un (e_call (a_cons (e_var rfl (a_cons (e_var rfl (a_nil ⟨os, W, n, rfl, hg, hn, r_neg (r_ne rfl ⟨?_, rfl⟩)⟩))))))
        rw [lines_neg hg, getD_neg]
        simp [eqD]
    · rintro Γ' Ω' ⟨hall, x, y, z, u, u2, u3, u4, v, rfl⟩
      exact ⟨x, y, z, u, u2, u3, u4, .inr ⟨v, rfl⟩⟩
  rintro Γ' Ω' ⟨x, y, z, u, u2, u3, u4, e⟩
  obtain ⟨v, rfl⟩ : ∃ v, Γ' = [some (.ptr p), some (.dat (.int mn)), some (.dat (.int mv)), some (.dat (gmD os W)), some (.dat (.tuple (os.map owD))), some (.dat (wbD W)), some (.dat (.str (gmD os W).shown)), x, y, z, u, some (.dat (gmD (os.map not) (turnW W))), u2, u3, u4, v] := by
    rcases e with e | e
    · exact ⟨_, e⟩
    · exact e
  refine s_ret (e_op (e_cb (a_cons (e_var rfl (a_nil (c_repr shg (e_var rfl (r_eq rfl ?_))))))))
  have e2 : eqD (.str (gmD os W).shown) (.str (gmD os W).shown) = true := by simp [eqD]
  rw [e2]
  exact h _
abbrev spLawA : ASp := fun as Ω P => ∃ ns : List Int, as = [.scr ns] ∧ ns.length ≤ 63 ∧ ∀ Ω', P (.dat (.bool true)) Ω'
theorem ok_law (T : Top K mg) {f : Addr} {fd : FuncData} (F : L2.Fun K "law" "law" s_law f fd) : Grd.FnG P w K mg base CX0 11 f fd ["_law_script"] (spA K spLawA) := by
  have G__law_open : FnOk P w K mg base CX0 1 T.f__law_open T.d__law_open ["_law_script", "_law_k"] (spA K spOpen) := ok_open T
  have G__law_right : Grd.FnG P w K mg base CX0 10 T.f__law_right T.d__law_right ["_law_deck"] (spA K spRight) := ok_right T
  refine fngA_ok F sc_law (fun as Ω P ⟨ns, e, _⟩ => by subst e; rfl) (fun cdv A outer s H E hr hgd => ?_)
  refine ⟨_, (pss_cons (ps_for PassesOwn.never rfl (pi_range1 rfl T.b_range (pa_cons (pe_callB (Dat.cl_max2 rfl) rfl T.b_max bt_max (pa_cons pe_int (pa_cons (pe_callB (Dat.cl_min2 rfl) rfl T.b_min bt_min (pa_cons pe_int (pa_cons (pe_callB (Dat.lenQ (K := K) rfl) rfl T.b_len bt_len (pa_cons (pv 0) pa_nil)) pa_nil))) pa_nil))) pa_nil)) (pg_name (i := 1) sc_law.nd rfl (.inl rfl))
      (pss_one (ps_if (pt_not (pt_val (Grd.pe_callG G__law_right (hr.mono (by omega)) (Nat.le_refl _) hgd rfl T.D__law_right.g T.D__law_right.F.kp T.D__law_right.b pass0 (pa_cons (pe_call G__law_open (hr.mono (by omega)) rfl T.D__law_open.g T.D__law_open.F.kp T.D__law_open.b .nil pass0 (pa_cons (pv 0) (pa_cons (pv 1) pa_nil))) pa_nil))))
        (pss_one (ps_ret pe_bl))
        pss_nil)))
    (pss_one (ps_ret pe_bl))), ?_⟩
  rintro as Ω P ⟨ns, rfl, hns, h⟩
  refine s_seqM (fun Γ' Ω' => True) ?_ (fun Γ' Ω' _ => s_ret (e_bl (h _)))
  refine s_for (fun as i Γ' Ω' => as = rngA 0 as.length ∧ ∃ x, Γ' = [some (.scr ns), x]) ?_
  refine i_rng1 (a_cons (e_cb (a_cons (e_int (a_cons (e_cb (a_cons (e_int (a_cons (e_cb (a_cons (e_var rfl (a_nil (c_lenS (a_nil (c_min2 (a_nil (c_max2 (a_nil ⟨_, rfl, ?_, ⟨?_, _, rfl⟩, ?_, fun Γ' Ω' _ => trivial⟩)))))))))))))))))))
  · constructor <;> (repeat' split) <;> omega
  · simp [rngA]
  · rintro i it Γ' Ω' hit ⟨eas, x, rfl⟩
    have hit' := hit
    unfold rngA at hit'
    rw [List.getElem?_map] at hit'
    obtain ⟨j, hj, rfl⟩ := Option.map_eq_some_iff.mp hit'
    have ej : ((0 : Int) + (j : Nat)) = ((j : Nat) : Int) := by omega
    rw [ej]
    refine g_name (s_if (t_not (t_B (e_call (a_cons (e_call (a_cons (e_var rfl (a_cons (e_var rfl (a_nil ⟨ns, j, rfl, fun p a b np => a_nil ⟨Ω', p, a, b, rfl, rfl, fun Ω2 => ⟨_, rfl, nofun, fun _ => s_next ⟨eas, _, rfl⟩⟩⟩⟩)))))))))))
/-- the law's own promise, from a plain list of the script -/
theorem spLaw_of {H : Hp} {a : Addr} {ns : List Int} (hl : ns.length ≤ 63) (hS : SqL K H a (ns.map V.int)) : spA K spLawA [.ref a] H (fun v _ => v = .bl true) fun _ _ _ => False := by
  have e : Fz (fun _ => none) H = H := by
    funext b
    rfl
  refine ⟨H, fun _ => none, [.scr ns], fun x _ => x = .dat (.bool true), ⟨by rw [e]; exact Same.refl _, fun p as z => (by cases z), .nil⟩, .cons (.scr (by rw [e]; exact hS)) .nil, ⟨ns, rfl, hl, fun _ => rfl⟩, fun x v Ω' H' hx _ hv => ?_⟩
  subst hx
  cases hv with | dat hv =>
    cases hv
    rfl
end
end K14

set_option Elab.async false
set_option linter.all false
set_option maxRecDepth 100000
set_option maxHeartbeats 4000000
namespace K14
open PySem PySem.Spec PyProof.Rows L2 Dat
theorem defAt_mk {h : Heap} {K : PySem.W.Frag} {mg : Str → Option Value} {x : Str} {st : Stmt} {ps : List Str} {f : Addr} {oc : Value} {od an : Option Addr} {osl : Array (Option Value)} {kV doc pm cdv ct : Value} (X : K.In h) (G : h.Ns mainGlobals mg)
    (a : PySem.W.nsIn K mainGlobals x = some (some (.ref f))) (l : K.lookup f = some ⟨oc, od, .func (PySem.W.fnOf x x (defArgs st) (defBody st) (defScope st) .none kV doc pm an cdv ct), osl⟩) (c : PySem.W.codeIn K cdv x = true) (k : PySem.W.keepIn K (.ref f) = true)
    (hb : ∀ (kV doc pm : Value) (an : Option Addr) (cdv ct : Value) (us : List Value), us.length = ps.length → bindArgs (PySem.W.fnOf x x (defArgs st) (defBody st) (defScope st) .none kV doc pm an cdv ct) ⟨us, []⟩ = pure (ps.zip us)) :
    DefAt K mg x st ps [] f (PySem.W.fnOf x x (defArgs st) (defBody st) (defScope st) .none kV doc pm an cdv ct) :=
  ⟨fun_mk l c k, PySem.W.mg_of X G a, (fun_mk l c k).binds hb⟩
theorem all_mk {l : PySem.W.OpenLaw} {w : World} {K : PySem.W.Frag} {h : Heap} {mg : Str → Option Value} {fa : Addr} (X : K.In h) (G : h.Ns mainGlobals mg) (hfa : mg "law" = some (.ref fa))
    {f_turned : Addr} {oc_turned : Value} {od_turned an_turned : Option Addr} {sl_turned : Array (Option Value)} {kV_turned dc_turned pm_turned cd_turned ct_turned : Value}
    (a_turned : PySem.W.nsIn K mainGlobals "turned" = some (some (.ref f_turned))) (l_turned : K.lookup f_turned = some ⟨oc_turned, od_turned, .func (PySem.W.fnOf "turned" "turned" (defArgs s_turned) (defBody s_turned) (defScope s_turned) .none kV_turned dc_turned pm_turned an_turned cd_turned ct_turned), sl_turned⟩) (c_turned : PySem.W.codeIn K cd_turned "turned" = true) (k_turned : PySem.W.keepIn K (.ref f_turned) = true)
    {f_is_whole : Addr} {oc_is_whole : Value} {od_is_whole an_is_whole : Option Addr} {sl_is_whole : Array (Option Value)} {kV_is_whole dc_is_whole pm_is_whole cd_is_whole ct_is_whole : Value}
    (a_is_whole : PySem.W.nsIn K mainGlobals "is_whole" = some (some (.ref f_is_whole))) (l_is_whole : K.lookup f_is_whole = some ⟨oc_is_whole, od_is_whole, .func (PySem.W.fnOf "is_whole" "is_whole" (defArgs s_is_whole) (defBody s_is_whole) (defScope s_is_whole) .none kV_is_whole dc_is_whole pm_is_whole an_is_whole cd_is_whole ct_is_whole), sl_is_whole⟩) (c_is_whole : PySem.W.codeIn K cd_is_whole "is_whole" = true) (k_is_whole : PySem.W.keepIn K (.ref f_is_whole) = true)
    {f_is_whole_in : Addr} {oc_is_whole_in : Value} {od_is_whole_in an_is_whole_in : Option Addr} {sl_is_whole_in : Array (Option Value)} {kV_is_whole_in dc_is_whole_in pm_is_whole_in cd_is_whole_in ct_is_whole_in : Value}
    (a_is_whole_in : PySem.W.nsIn K mainGlobals "is_whole_in" = some (some (.ref f_is_whole_in))) (l_is_whole_in : K.lookup f_is_whole_in = some ⟨oc_is_whole_in, od_is_whole_in, .func (PySem.W.fnOf "is_whole_in" "is_whole_in" (defArgs s_is_whole_in) (defBody s_is_whole_in) (defScope s_is_whole_in) .none kV_is_whole_in dc_is_whole_in pm_is_whole_in an_is_whole_in cd_is_whole_in ct_is_whole_in), sl_is_whole_in⟩) (c_is_whole_in : PySem.W.codeIn K cd_is_whole_in "is_whole_in" = true) (k_is_whole_in : PySem.W.keepIn K (.ref f_is_whole_in) = true)
    {f_is_pair : Addr} {oc_is_pair : Value} {od_is_pair an_is_pair : Option Addr} {sl_is_pair : Array (Option Value)} {kV_is_pair dc_is_pair pm_is_pair cd_is_pair ct_is_pair : Value}
    (a_is_pair : PySem.W.nsIn K mainGlobals "is_pair" = some (some (.ref f_is_pair))) (l_is_pair : K.lookup f_is_pair = some ⟨oc_is_pair, od_is_pair, .func (PySem.W.fnOf "is_pair" "is_pair" (defArgs s_is_pair) (defBody s_is_pair) (defScope s_is_pair) .none kV_is_pair dc_is_pair pm_is_pair an_is_pair cd_is_pair ct_is_pair), sl_is_pair⟩) (c_is_pair : PySem.W.codeIn K cd_is_pair "is_pair" = true) (k_is_pair : PySem.W.keepIn K (.ref f_is_pair) = true)
    {f_check_count : Addr} {oc_check_count : Value} {od_check_count an_check_count : Option Addr} {sl_check_count : Array (Option Value)} {kV_check_count dc_check_count pm_check_count cd_check_count ct_check_count : Value}
    (a_check_count : PySem.W.nsIn K mainGlobals "check_count" = some (some (.ref f_check_count))) (l_check_count : K.lookup f_check_count = some ⟨oc_check_count, od_check_count, .func (PySem.W.fnOf "check_count" "check_count" (defArgs s_check_count) (defBody s_check_count) (defScope s_check_count) .none kV_check_count dc_check_count pm_check_count an_check_count cd_check_count ct_check_count), sl_check_count⟩) (c_check_count : PySem.W.codeIn K cd_check_count "check_count" = true) (k_check_count : PySem.W.keepIn K (.ref f_check_count) = true)
    {f_is_web : Addr} {oc_is_web : Value} {od_is_web an_is_web : Option Addr} {sl_is_web : Array (Option Value)} {kV_is_web dc_is_web pm_is_web cd_is_web ct_is_web : Value}
    (a_is_web : PySem.W.nsIn K mainGlobals "is_web" = some (some (.ref f_is_web))) (l_is_web : K.lookup f_is_web = some ⟨oc_is_web, od_is_web, .func (PySem.W.fnOf "is_web" "is_web" (defArgs s_is_web) (defBody s_is_web) (defScope s_is_web) .none kV_is_web dc_is_web pm_is_web an_is_web cd_is_web ct_is_web), sl_is_web⟩) (c_is_web : PySem.W.codeIn K cd_is_web "is_web" = true) (k_is_web : PySem.W.keepIn K (.ref f_is_web) = true)
    {f_is_node : Addr} {oc_is_node : Value} {od_is_node an_is_node : Option Addr} {sl_is_node : Array (Option Value)} {kV_is_node dc_is_node pm_is_node cd_is_node ct_is_node : Value}
    (a_is_node : PySem.W.nsIn K mainGlobals "is_node" = some (some (.ref f_is_node))) (l_is_node : K.lookup f_is_node = some ⟨oc_is_node, od_is_node, .func (PySem.W.fnOf "is_node" "is_node" (defArgs s_is_node) (defBody s_is_node) (defScope s_is_node) .none kV_is_node dc_is_node pm_is_node an_is_node cd_is_node ct_is_node), sl_is_node⟩) (c_is_node : PySem.W.codeIn K cd_is_node "is_node" = true) (k_is_node : PySem.W.keepIn K (.ref f_is_node) = true)
    {f_is_move : Addr} {oc_is_move : Value} {od_is_move an_is_move : Option Addr} {sl_is_move : Array (Option Value)} {kV_is_move dc_is_move pm_is_move cd_is_move ct_is_move : Value}
    (a_is_move : PySem.W.nsIn K mainGlobals "is_move" = some (some (.ref f_is_move))) (l_is_move : K.lookup f_is_move = some ⟨oc_is_move, od_is_move, .func (PySem.W.fnOf "is_move" "is_move" (defArgs s_is_move) (defBody s_is_move) (defScope s_is_move) .none kV_is_move dc_is_move pm_is_move an_is_move cd_is_move ct_is_move), sl_is_move⟩) (c_is_move : PySem.W.codeIn K cd_is_move "is_move" = true) (k_is_move : PySem.W.keepIn K (.ref f_is_move) = true)
    {f_walk_by_lines : Addr} {oc_walk_by_lines : Value} {od_walk_by_lines an_walk_by_lines : Option Addr} {sl_walk_by_lines : Array (Option Value)} {kV_walk_by_lines dc_walk_by_lines pm_walk_by_lines cd_walk_by_lines ct_walk_by_lines : Value}
    (a_walk_by_lines : PySem.W.nsIn K mainGlobals "walk_by_lines" = some (some (.ref f_walk_by_lines))) (l_walk_by_lines : K.lookup f_walk_by_lines = some ⟨oc_walk_by_lines, od_walk_by_lines, .func (PySem.W.fnOf "walk_by_lines" "walk_by_lines" (defArgs s_walk_by_lines) (defBody s_walk_by_lines) (defScope s_walk_by_lines) .none kV_walk_by_lines dc_walk_by_lines pm_walk_by_lines an_walk_by_lines cd_walk_by_lines ct_walk_by_lines), sl_walk_by_lines⟩) (c_walk_by_lines : PySem.W.codeIn K cd_walk_by_lines "walk_by_lines" = true) (k_walk_by_lines : PySem.W.keepIn K (.ref f_walk_by_lines) = true)
    {f_first_best : Addr} {oc_first_best : Value} {od_first_best an_first_best : Option Addr} {sl_first_best : Array (Option Value)} {kV_first_best dc_first_best pm_first_best cd_first_best ct_first_best : Value}
    (a_first_best : PySem.W.nsIn K mainGlobals "first_best" = some (some (.ref f_first_best))) (l_first_best : K.lookup f_first_best = some ⟨oc_first_best, od_first_best, .func (PySem.W.fnOf "first_best" "first_best" (defArgs s_first_best) (defBody s_first_best) (defScope s_first_best) .none kV_first_best dc_first_best pm_first_best an_first_best cd_first_best ct_first_best), sl_first_best⟩) (c_first_best : PySem.W.codeIn K cd_first_best "first_best" = true) (k_first_best : PySem.W.keepIn K (.ref f_first_best) = true)
    {f_is_game : Addr} {oc_is_game : Value} {od_is_game an_is_game : Option Addr} {sl_is_game : Array (Option Value)} {kV_is_game dc_is_game pm_is_game cd_is_game ct_is_game : Value}
    (a_is_game : PySem.W.nsIn K mainGlobals "is_game" = some (some (.ref f_is_game))) (l_is_game : K.lookup f_is_game = some ⟨oc_is_game, od_is_game, .func (PySem.W.fnOf "is_game" "is_game" (defArgs s_is_game) (defBody s_is_game) (defScope s_is_game) .none kV_is_game dc_is_game pm_is_game an_is_game cd_is_game ct_is_game), sl_is_game⟩) (c_is_game : PySem.W.codeIn K cd_is_game "is_game" = true) (k_is_game : PySem.W.keepIn K (.ref f_is_game) = true)
    {f_check_game : Addr} {oc_check_game : Value} {od_check_game an_check_game : Option Addr} {sl_check_game : Array (Option Value)} {kV_check_game dc_check_game pm_check_game cd_check_game ct_check_game : Value}
    (a_check_game : PySem.W.nsIn K mainGlobals "check_game" = some (some (.ref f_check_game))) (l_check_game : K.lookup f_check_game = some ⟨oc_check_game, od_check_game, .func (PySem.W.fnOf "check_game" "check_game" (defArgs s_check_game) (defBody s_check_game) (defScope s_check_game) .none kV_check_game dc_check_game pm_check_game an_check_game cd_check_game ct_check_game), sl_check_game⟩) (c_check_game : PySem.W.codeIn K cd_check_game "check_game" = true) (k_check_game : PySem.W.keepIn K (.ref f_check_game) = true)
    {f_check_owner : Addr} {oc_check_owner : Value} {od_check_owner an_check_owner : Option Addr} {sl_check_owner : Array (Option Value)} {kV_check_owner dc_check_owner pm_check_owner cd_check_owner ct_check_owner : Value}
    (a_check_owner : PySem.W.nsIn K mainGlobals "check_owner" = some (some (.ref f_check_owner))) (l_check_owner : K.lookup f_check_owner = some ⟨oc_check_owner, od_check_owner, .func (PySem.W.fnOf "check_owner" "check_owner" (defArgs s_check_owner) (defBody s_check_owner) (defScope s_check_owner) .none kV_check_owner dc_check_owner pm_check_owner an_check_owner cd_check_owner ct_check_owner), sl_check_owner⟩) (c_check_owner : PySem.W.codeIn K cd_check_owner "check_owner" = true) (k_check_owner : PySem.W.keepIn K (.ref f_check_owner) = true)
    {f_is_way : Addr} {oc_is_way : Value} {od_is_way an_is_way : Option Addr} {sl_is_way : Array (Option Value)} {kV_is_way dc_is_way pm_is_way cd_is_way ct_is_way : Value}
    (a_is_way : PySem.W.nsIn K mainGlobals "is_way" = some (some (.ref f_is_way))) (l_is_way : K.lookup f_is_way = some ⟨oc_is_way, od_is_way, .func (PySem.W.fnOf "is_way" "is_way" (defArgs s_is_way) (defBody s_is_way) (defScope s_is_way) .none kV_is_way dc_is_way pm_is_way an_is_way cd_is_way ct_is_way), sl_is_way⟩) (c_is_way : PySem.W.codeIn K cd_is_way "is_way" = true) (k_is_way : PySem.W.keepIn K (.ref f_is_way) = true)
    {f_held : Addr} {oc_held : Value} {od_held an_held : Option Addr} {sl_held : Array (Option Value)} {kV_held dc_held pm_held cd_held ct_held : Value}
    (a_held : PySem.W.nsIn K mainGlobals "held" = some (some (.ref f_held))) (l_held : K.lookup f_held = some ⟨oc_held, od_held, .func (PySem.W.fnOf "held" "held" (defArgs s_held) (defBody s_held) (defScope s_held) .none kV_held dc_held pm_held an_held cd_held ct_held), sl_held⟩) (c_held : PySem.W.codeIn K cd_held "held" = true) (k_held : PySem.W.keepIn K (.ref f_held) = true)
    {f_held_web : Addr} {oc_held_web : Value} {od_held_web an_held_web : Option Addr} {sl_held_web : Array (Option Value)} {kV_held_web dc_held_web pm_held_web cd_held_web ct_held_web : Value}
    (a_held_web : PySem.W.nsIn K mainGlobals "held_web" = some (some (.ref f_held_web))) (l_held_web : K.lookup f_held_web = some ⟨oc_held_web, od_held_web, .func (PySem.W.fnOf "held_web" "held_web" (defArgs s_held_web) (defBody s_held_web) (defScope s_held_web) .none kV_held_web dc_held_web pm_held_web an_held_web cd_held_web ct_held_web), sl_held_web⟩) (c_held_web : PySem.W.codeIn K cd_held_web "held_web" = true) (k_held_web : PySem.W.keepIn K (.ref f_held_web) = true)
    {f_game_turned : Addr} {oc_game_turned : Value} {od_game_turned an_game_turned : Option Addr} {sl_game_turned : Array (Option Value)} {kV_game_turned dc_game_turned pm_game_turned cd_game_turned ct_game_turned : Value}
    (a_game_turned : PySem.W.nsIn K mainGlobals "game_turned" = some (some (.ref f_game_turned))) (l_game_turned : K.lookup f_game_turned = some ⟨oc_game_turned, od_game_turned, .func (PySem.W.fnOf "game_turned" "game_turned" (defArgs s_game_turned) (defBody s_game_turned) (defScope s_game_turned) .none kV_game_turned dc_game_turned pm_game_turned an_game_turned cd_game_turned ct_game_turned), sl_game_turned⟩) (c_game_turned : PySem.W.codeIn K cd_game_turned "game_turned" = true) (k_game_turned : PySem.W.keepIn K (.ref f_game_turned) = true)
    {f_turned_game : Addr} {oc_turned_game : Value} {od_turned_game an_turned_game : Option Addr} {sl_turned_game : Array (Option Value)} {kV_turned_game dc_turned_game pm_turned_game cd_turned_game ct_turned_game : Value}
    (a_turned_game : PySem.W.nsIn K mainGlobals "turned_game" = some (some (.ref f_turned_game))) (l_turned_game : K.lookup f_turned_game = some ⟨oc_turned_game, od_turned_game, .func (PySem.W.fnOf "turned_game" "turned_game" (defArgs s_turned_game) (defBody s_turned_game) (defScope s_turned_game) .none kV_turned_game dc_turned_game pm_turned_game an_turned_game cd_turned_game ct_turned_game), sl_turned_game⟩) (c_turned_game : PySem.W.codeIn K cd_turned_game "turned_game" = true) (k_turned_game : PySem.W.keepIn K (.ref f_turned_game) = true)
    {f_game_steps : Addr} {oc_game_steps : Value} {od_game_steps an_game_steps : Option Addr} {sl_game_steps : Array (Option Value)} {kV_game_steps dc_game_steps pm_game_steps cd_game_steps ct_game_steps : Value}
    (a_game_steps : PySem.W.nsIn K mainGlobals "game_steps" = some (some (.ref f_game_steps))) (l_game_steps : K.lookup f_game_steps = some ⟨oc_game_steps, od_game_steps, .func (PySem.W.fnOf "game_steps" "game_steps" (defArgs s_game_steps) (defBody s_game_steps) (defScope s_game_steps) .none kV_game_steps dc_game_steps pm_game_steps an_game_steps cd_game_steps ct_game_steps), sl_game_steps⟩) (c_game_steps : PySem.W.codeIn K cd_game_steps "game_steps" = true) (k_game_steps : PySem.W.keepIn K (.ref f_game_steps) = true)
    {f_steps_lines : Addr} {oc_steps_lines : Value} {od_steps_lines an_steps_lines : Option Addr} {sl_steps_lines : Array (Option Value)} {kV_steps_lines dc_steps_lines pm_steps_lines cd_steps_lines ct_steps_lines : Value}
    (a_steps_lines : PySem.W.nsIn K mainGlobals "steps_lines" = some (some (.ref f_steps_lines))) (l_steps_lines : K.lookup f_steps_lines = some ⟨oc_steps_lines, od_steps_lines, .func (PySem.W.fnOf "steps_lines" "steps_lines" (defArgs s_steps_lines) (defBody s_steps_lines) (defScope s_steps_lines) .none kV_steps_lines dc_steps_lines pm_steps_lines an_steps_lines cd_steps_lines ct_steps_lines), sl_steps_lines⟩) (c_steps_lines : PySem.W.codeIn K cd_steps_lines "steps_lines" = true) (k_steps_lines : PySem.W.keepIn K (.ref f_steps_lines) = true)
    {f_lines_left : Addr} {oc_lines_left : Value} {od_lines_left an_lines_left : Option Addr} {sl_lines_left : Array (Option Value)} {kV_lines_left dc_lines_left pm_lines_left cd_lines_left ct_lines_left : Value}
    (a_lines_left : PySem.W.nsIn K mainGlobals "lines_left" = some (some (.ref f_lines_left))) (l_lines_left : K.lookup f_lines_left = some ⟨oc_lines_left, od_lines_left, .func (PySem.W.fnOf "lines_left" "lines_left" (defArgs s_lines_left) (defBody s_lines_left) (defScope s_lines_left) .none kV_lines_left dc_lines_left pm_lines_left an_lines_left cd_lines_left ct_lines_left), sl_lines_left⟩) (c_lines_left : PySem.W.codeIn K cd_lines_left "lines_left" = true) (k_lines_left : PySem.W.keepIn K (.ref f_lines_left) = true)
    {f_line_left : Addr} {oc_line_left : Value} {od_line_left an_line_left : Option Addr} {sl_line_left : Array (Option Value)} {kV_line_left dc_line_left pm_line_left cd_line_left ct_line_left : Value}
    (a_line_left : PySem.W.nsIn K mainGlobals "line_left" = some (some (.ref f_line_left))) (l_line_left : K.lookup f_line_left = some ⟨oc_line_left, od_line_left, .func (PySem.W.fnOf "line_left" "line_left" (defArgs s_line_left) (defBody s_line_left) (defScope s_line_left) .none kV_line_left dc_line_left pm_line_left an_line_left cd_line_left ct_line_left), sl_line_left⟩) (c_line_left : PySem.W.codeIn K cd_line_left "line_left" = true) (k_line_left : PySem.W.keepIn K (.ref f_line_left) = true)
    {f_steps_play : Addr} {oc_steps_play : Value} {od_steps_play an_steps_play : Option Addr} {sl_steps_play : Array (Option Value)} {kV_steps_play dc_steps_play pm_steps_play cd_steps_play ct_steps_play : Value}
    (a_steps_play : PySem.W.nsIn K mainGlobals "steps_play" = some (some (.ref f_steps_play))) (l_steps_play : K.lookup f_steps_play = some ⟨oc_steps_play, od_steps_play, .func (PySem.W.fnOf "steps_play" "steps_play" (defArgs s_steps_play) (defBody s_steps_play) (defScope s_steps_play) .none kV_steps_play dc_steps_play pm_steps_play an_steps_play cd_steps_play ct_steps_play), sl_steps_play⟩) (c_steps_play : PySem.W.codeIn K cd_steps_play "steps_play" = true) (k_steps_play : PySem.W.keepIn K (.ref f_steps_play) = true)
    {f__law_open : Addr} {oc__law_open : Value} {od__law_open an__law_open : Option Addr} {sl__law_open : Array (Option Value)} {kV__law_open dc__law_open pm__law_open cd__law_open ct__law_open : Value}
    (a__law_open : PySem.W.nsIn K mainGlobals "_law_open" = some (some (.ref f__law_open))) (l__law_open : K.lookup f__law_open = some ⟨oc__law_open, od__law_open, .func (PySem.W.fnOf "_law_open" "_law_open" (defArgs s__law_open) (defBody s__law_open) (defScope s__law_open) .none kV__law_open dc__law_open pm__law_open an__law_open cd__law_open ct__law_open), sl__law_open⟩) (c__law_open : PySem.W.codeIn K cd__law_open "_law_open" = true) (k__law_open : PySem.W.keepIn K (.ref f__law_open) = true)
    {f__law_draw : Addr} {oc__law_draw : Value} {od__law_draw an__law_draw : Option Addr} {sl__law_draw : Array (Option Value)} {kV__law_draw dc__law_draw pm__law_draw cd__law_draw ct__law_draw : Value}
    (a__law_draw : PySem.W.nsIn K mainGlobals "_law_draw" = some (some (.ref f__law_draw))) (l__law_draw : K.lookup f__law_draw = some ⟨oc__law_draw, od__law_draw, .func (PySem.W.fnOf "_law_draw" "_law_draw" (defArgs s__law_draw) (defBody s__law_draw) (defScope s__law_draw) .none kV__law_draw dc__law_draw pm__law_draw an__law_draw cd__law_draw ct__law_draw), sl__law_draw⟩) (c__law_draw : PySem.W.codeIn K cd__law_draw "_law_draw" = true) (k__law_draw : PySem.W.keepIn K (.ref f__law_draw) = true)
    {f__law_web : Addr} {oc__law_web : Value} {od__law_web an__law_web : Option Addr} {sl__law_web : Array (Option Value)} {kV__law_web dc__law_web pm__law_web cd__law_web ct__law_web : Value}
    (a__law_web : PySem.W.nsIn K mainGlobals "_law_web" = some (some (.ref f__law_web))) (l__law_web : K.lookup f__law_web = some ⟨oc__law_web, od__law_web, .func (PySem.W.fnOf "_law_web" "_law_web" (defArgs s__law_web) (defBody s__law_web) (defScope s__law_web) .none kV__law_web dc__law_web pm__law_web an__law_web cd__law_web ct__law_web), sl__law_web⟩) (c__law_web : PySem.W.codeIn K cd__law_web "_law_web" = true) (k__law_web : PySem.W.keepIn K (.ref f__law_web) = true)
    {f__law_game : Addr} {oc__law_game : Value} {od__law_game an__law_game : Option Addr} {sl__law_game : Array (Option Value)} {kV__law_game dc__law_game pm__law_game cd__law_game ct__law_game : Value}
    (a__law_game : PySem.W.nsIn K mainGlobals "_law_game" = some (some (.ref f__law_game))) (l__law_game : K.lookup f__law_game = some ⟨oc__law_game, od__law_game, .func (PySem.W.fnOf "_law_game" "_law_game" (defArgs s__law_game) (defBody s__law_game) (defScope s__law_game) .none kV__law_game dc__law_game pm__law_game an__law_game cd__law_game ct__law_game), sl__law_game⟩) (c__law_game : PySem.W.codeIn K cd__law_game "_law_game" = true) (k__law_game : PySem.W.keepIn K (.ref f__law_game) = true)
    {f__law_held : Addr} {oc__law_held : Value} {od__law_held an__law_held : Option Addr} {sl__law_held : Array (Option Value)} {kV__law_held dc__law_held pm__law_held cd__law_held ct__law_held : Value}
    (a__law_held : PySem.W.nsIn K mainGlobals "_law_held" = some (some (.ref f__law_held))) (l__law_held : K.lookup f__law_held = some ⟨oc__law_held, od__law_held, .func (PySem.W.fnOf "_law_held" "_law_held" (defArgs s__law_held) (defBody s__law_held) (defScope s__law_held) .none kV__law_held dc__law_held pm__law_held an__law_held cd__law_held ct__law_held), sl__law_held⟩) (c__law_held : PySem.W.codeIn K cd__law_held "_law_held" = true) (k__law_held : PySem.W.keepIn K (.ref f__law_held) = true)
    {f__law_lines : Addr} {oc__law_lines : Value} {od__law_lines an__law_lines : Option Addr} {sl__law_lines : Array (Option Value)} {kV__law_lines dc__law_lines pm__law_lines cd__law_lines ct__law_lines : Value}
    (a__law_lines : PySem.W.nsIn K mainGlobals "_law_lines" = some (some (.ref f__law_lines))) (l__law_lines : K.lookup f__law_lines = some ⟨oc__law_lines, od__law_lines, .func (PySem.W.fnOf "_law_lines" "_law_lines" (defArgs s__law_lines) (defBody s__law_lines) (defScope s__law_lines) .none kV__law_lines dc__law_lines pm__law_lines an__law_lines cd__law_lines ct__law_lines), sl__law_lines⟩) (c__law_lines : PySem.W.codeIn K cd__law_lines "_law_lines" = true) (k__law_lines : PySem.W.keepIn K (.ref f__law_lines) = true)
    {f__law_drawn : Addr} {oc__law_drawn : Value} {od__law_drawn an__law_drawn : Option Addr} {sl__law_drawn : Array (Option Value)} {kV__law_drawn dc__law_drawn pm__law_drawn cd__law_drawn ct__law_drawn : Value}
    (a__law_drawn : PySem.W.nsIn K mainGlobals "_law_drawn" = some (some (.ref f__law_drawn))) (l__law_drawn : K.lookup f__law_drawn = some ⟨oc__law_drawn, od__law_drawn, .func (PySem.W.fnOf "_law_drawn" "_law_drawn" (defArgs s__law_drawn) (defBody s__law_drawn) (defScope s__law_drawn) .none kV__law_drawn dc__law_drawn pm__law_drawn an__law_drawn cd__law_drawn ct__law_drawn), sl__law_drawn⟩) (c__law_drawn : PySem.W.codeIn K cd__law_drawn "_law_drawn" = true) (k__law_drawn : PySem.W.keepIn K (.ref f__law_drawn) = true)
    {f__law_play : Addr} {oc__law_play : Value} {od__law_play an__law_play : Option Addr} {sl__law_play : Array (Option Value)} {kV__law_play dc__law_play pm__law_play cd__law_play ct__law_play : Value}
    (a__law_play : PySem.W.nsIn K mainGlobals "_law_play" = some (some (.ref f__law_play))) (l__law_play : K.lookup f__law_play = some ⟨oc__law_play, od__law_play, .func (PySem.W.fnOf "_law_play" "_law_play" (defArgs s__law_play) (defBody s__law_play) (defScope s__law_play) .none kV__law_play dc__law_play pm__law_play an__law_play cd__law_play ct__law_play), sl__law_play⟩) (c__law_play : PySem.W.codeIn K cd__law_play "_law_play" = true) (k__law_play : PySem.W.keepIn K (.ref f__law_play) = true)
    {f__law_steps_right : Addr} {oc__law_steps_right : Value} {od__law_steps_right an__law_steps_right : Option Addr} {sl__law_steps_right : Array (Option Value)} {kV__law_steps_right dc__law_steps_right pm__law_steps_right cd__law_steps_right ct__law_steps_right : Value}
    (a__law_steps_right : PySem.W.nsIn K mainGlobals "_law_steps_right" = some (some (.ref f__law_steps_right))) (l__law_steps_right : K.lookup f__law_steps_right = some ⟨oc__law_steps_right, od__law_steps_right, .func (PySem.W.fnOf "_law_steps_right" "_law_steps_right" (defArgs s__law_steps_right) (defBody s__law_steps_right) (defScope s__law_steps_right) .none kV__law_steps_right dc__law_steps_right pm__law_steps_right an__law_steps_right cd__law_steps_right ct__law_steps_right), sl__law_steps_right⟩) (c__law_steps_right : PySem.W.codeIn K cd__law_steps_right "_law_steps_right" = true) (k__law_steps_right : PySem.W.keepIn K (.ref f__law_steps_right) = true)
    {f__law_right : Addr} {oc__law_right : Value} {od__law_right an__law_right : Option Addr} {sl__law_right : Array (Option Value)} {kV__law_right dc__law_right pm__law_right cd__law_right ct__law_right : Value}
    (a__law_right : PySem.W.nsIn K mainGlobals "_law_right" = some (some (.ref f__law_right))) (l__law_right : K.lookup f__law_right = some ⟨oc__law_right, od__law_right, .func (PySem.W.fnOf "_law_right" "_law_right" (defArgs s__law_right) (defBody s__law_right) (defScope s__law_right) .none kV__law_right dc__law_right pm__law_right an__law_right cd__law_right ct__law_right), sl__law_right⟩) (c__law_right : PySem.W.codeIn K cd__law_right "_law_right" = true) (k__law_right : PySem.W.keepIn K (.ref f__law_right) = true)
    {f_law : Addr} {oc_law : Value} {od_law an_law : Option Addr} {sl_law : Array (Option Value)} {kV_law dc_law pm_law cd_law ct_law : Value}
    (a_law : PySem.W.nsIn K mainGlobals "law" = some (some (.ref f_law))) (l_law : K.lookup f_law = some ⟨oc_law, od_law, .func (PySem.W.fnOf "law" "law" (defArgs s_law) (defBody s_law) (defScope s_law) .none kV_law dc_law pm_law an_law cd_law ct_law), sl_law⟩) (c_law : PySem.W.codeIn K cd_law "law" = true) (k_law : PySem.W.keepIn K (.ref f_law) = true)
    (z_len : PySem.W.nsIn K mainGlobals "len" = some none)
    (z_isinstance : PySem.W.nsIn K mainGlobals "isinstance" = some none)
    (z_abs : PySem.W.nsIn K mainGlobals "abs" = some none)
    (z_all : PySem.W.nsIn K mainGlobals "all" = some none)
    (z_max : PySem.W.nsIn K mainGlobals "max" = some none)
    (z_min : PySem.W.nsIn K mainGlobals "min" = some none)
    (z_sorted : PySem.W.nsIn K mainGlobals "sorted" = some none)
    (z_repr : PySem.W.nsIn K mainGlobals "repr" = some none)
    (z_int : PySem.W.nsIn K mainGlobals "int" = some none)
    (z_bool : PySem.W.nsIn K mainGlobals "bool" = some none)
    (z_tuple : PySem.W.nsIn K mainGlobals "tuple" = some none)
    (z_list : PySem.W.nsIn K mainGlobals "list" = some none)
    (z_range : PySem.W.nsIn K mainGlobals "range" = some none)
    (z_enumerate : PySem.W.nsIn K mainGlobals "enumerate" = some none)
    (z_zip : PySem.W.nsIn K mainGlobals "zip" = some none)
    {t_MOST_NODES : Tok} (g_MOST_NODES : PySem.W.nsIn K mainGlobals "MOST_NODES" = some (some (.int 120 t_MOST_NODES)))
    {t_MOST_MOVES : Tok} (g_MOST_MOVES : PySem.W.nsIn K mainGlobals "MOST_MOVES" = some (some (.int 12 t_MOST_MOVES)))
    {t_MOST_WEIGHT : Tok} (g_MOST_WEIGHT : PySem.W.nsIn K mainGlobals "MOST_WEIGHT" = some (some (.int 1000000 t_MOST_WEIGHT)))
    {p_OWNERS : Addr} {m_OWNERS : Nat} {dd_OWNERS : Option Addr} {ss_OWNERS : Array (Option Value)} {u_OWNERS_0 u_OWNERS_1 : Tok} (g_OWNERS : PySem.W.nsIn K mainGlobals "OWNERS" = some (some (.ref p_OWNERS))) (o_OWNERS : K.lookup p_OWNERS = some ⟨.type "tuple", dd_OWNERS, .seq #[.str "house" u_OWNERS_0, .str "guests" u_OWNERS_1] m_OWNERS, ss_OWNERS⟩)
    {t_MOST_GAME_NODES : Tok} (g_MOST_GAME_NODES : PySem.W.nsIn K mainGlobals "MOST_GAME_NODES" = some (some (.int 30 t_MOST_GAME_NODES)))
    {t_MOST_GAME_WEIGHT : Tok} (g_MOST_GAME_WEIGHT : PySem.W.nsIn K mainGlobals "MOST_GAME_WEIGHT" = some (some (.int 50 t_MOST_GAME_WEIGHT)))
    {t_MOST_STEPS : Tok} (g_MOST_STEPS : PySem.W.nsIn K mainGlobals "MOST_STEPS" = some (some (.int 12 t_MOST_STEPS)))
    :
    ∃ (fd : FuncData) (sp : Sp), (∀ (s : Shared) (u : Value), BindsTo s fd ⟨[u], []⟩ [("_law_script", u)]) ∧
        (∀ (H : Hp) (a : Addr) (ns : List Int), ns.length ≤ 63 → SqL K H a (ns.map V.int) → sp [.ref a] H (fun v _ => v = .bl true) fun _ _ _ => False) ∧
        ∀ base : Heap, K.In base → base.Ns mainGlobals mg → Grd.FnG l.prog w K mg base CX0 11 fa fd ["_law_script"] sp := by
  have e := hfa.symm.trans (PySem.W.mg_of X G a_law)
  cases e
  have D_turned := defAt_mk (st := s_turned) (ps := ["web"]) X G a_turned l_turned c_turned k_turned (fun _ _ _ _ _ _ us hl => match us, hl with | [_], _ => rfl)
  have D_is_whole := defAt_mk (st := s_is_whole) (ps := ["thing"]) X G a_is_whole l_is_whole c_is_whole k_is_whole (fun _ _ _ _ _ _ us hl => match us, hl with | [_], _ => rfl)
  have D_is_whole_in := defAt_mk (st := s_is_whole_in) (ps := ["thing", "low", "high"]) X G a_is_whole_in l_is_whole_in c_is_whole_in k_is_whole_in (fun _ _ _ _ _ _ us hl => match us, hl with | [_, _, _], _ => rfl)
  have D_is_pair := defAt_mk (st := s_is_pair) (ps := ["thing"]) X G a_is_pair l_is_pair c_is_pair k_is_pair (fun _ _ _ _ _ _ us hl => match us, hl with | [_], _ => rfl)
  have D_check_count := defAt_mk (st := s_check_count) (ps := ["thing", "low", "high"]) X G a_check_count l_check_count c_check_count k_check_count (fun _ _ _ _ _ _ us hl => match us, hl with | [_, _, _], _ => rfl)
  have D_is_web := defAt_mk (st := s_is_web) (ps := ["thing"]) X G a_is_web l_is_web c_is_web k_is_web (fun _ _ _ _ _ _ us hl => match us, hl with | [_], _ => rfl)
  have D_is_node := defAt_mk (st := s_is_node) (ps := ["thing", "size"]) X G a_is_node l_is_node c_is_node k_is_node (fun _ _ _ _ _ _ us hl => match us, hl with | [_, _], _ => rfl)
  have D_is_move := defAt_mk (st := s_is_move) (ps := ["thing", "size"]) X G a_is_move l_is_move c_is_move k_is_move (fun _ _ _ _ _ _ us hl => match us, hl with | [_, _], _ => rfl)
  have D_walk_by_lines := defAt_mk (st := s_walk_by_lines) (ps := ["web", "lines", "node"]) X G a_walk_by_lines l_walk_by_lines c_walk_by_lines k_walk_by_lines (fun _ _ _ _ _ _ us hl => match us, hl with | [_, _, _], _ => rfl)
  have D_first_best := defAt_mk (st := s_first_best) (ps := ["moves", "line", "total"]) X G a_first_best l_first_best c_first_best k_first_best (fun _ _ _ _ _ _ us hl => match us, hl with | [_, _, _], _ => rfl)
  have D_is_game := defAt_mk (st := s_is_game) (ps := ["thing"]) X G a_is_game l_is_game c_is_game k_is_game (fun _ _ _ _ _ _ us hl => match us, hl with | [_], _ => rfl)
  have D_check_game := defAt_mk (st := s_check_game) (ps := ["thing"]) X G a_check_game l_check_game c_check_game k_check_game (fun _ _ _ _ _ _ us hl => match us, hl with | [_], _ => rfl)
  have D_check_owner := defAt_mk (st := s_check_owner) (ps := ["thing"]) X G a_check_owner l_check_owner c_check_owner k_check_owner (fun _ _ _ _ _ _ us hl => match us, hl with | [_], _ => rfl)
  have D_is_way := defAt_mk (st := s_is_way) (ps := ["game", "owner", "thing"]) X G a_is_way l_is_way c_is_way k_is_way (fun _ _ _ _ _ _ us hl => match us, hl with | [_, _, _], _ => rfl)
  have D_held := defAt_mk (st := s_held) (ps := ["game", "owner", "way"]) X G a_held l_held c_held k_held (fun _ _ _ _ _ _ us hl => match us, hl with | [_, _, _], _ => rfl)
  have D_held_web := defAt_mk (st := s_held_web) (ps := ["game", "way"]) X G a_held_web l_held_web c_held_web k_held_web (fun _ _ _ _ _ _ us hl => match us, hl with | [_, _], _ => rfl)
  have D_game_turned := defAt_mk (st := s_game_turned) (ps := ["game"]) X G a_game_turned l_game_turned c_game_turned k_game_turned (fun _ _ _ _ _ _ us hl => match us, hl with | [_], _ => rfl)
  have D_turned_game := defAt_mk (st := s_turned_game) (ps := ["game"]) X G a_turned_game l_turned_game c_turned_game k_turned_game (fun _ _ _ _ _ _ us hl => match us, hl with | [_], _ => rfl)
  have D_game_steps := defAt_mk (st := s_game_steps) (ps := ["game", "count"]) X G a_game_steps l_game_steps c_game_steps k_game_steps (fun _ _ _ _ _ _ us hl => match us, hl with | [_, _], _ => rfl)
  have D_steps_lines := defAt_mk (st := s_steps_lines) (ps := ["game", "count"]) X G a_steps_lines l_steps_lines c_steps_lines k_steps_lines (fun _ _ _ _ _ _ us hl => match us, hl with | [_, _], _ => rfl)
  have D_lines_left := defAt_mk (st := s_lines_left) (ps := ["game", "count"]) X G a_lines_left l_lines_left c_lines_left k_lines_left (fun _ _ _ _ _ _ us hl => match us, hl with | [_, _], _ => rfl)
  have D_line_left := defAt_mk (st := s_line_left) (ps := ["game", "line"]) X G a_line_left l_line_left c_line_left k_line_left (fun _ _ _ _ _ _ us hl => match us, hl with | [_, _], _ => rfl)
  have D_steps_play := defAt_mk (st := s_steps_play) (ps := ["game", "count"]) X G a_steps_play l_steps_play c_steps_play k_steps_play (fun _ _ _ _ _ _ us hl => match us, hl with | [_, _], _ => rfl)
  have D__law_open := defAt_mk (st := s__law_open) (ps := ["_law_script", "_law_k"]) X G a__law_open l__law_open c__law_open k__law_open (fun _ _ _ _ _ _ us hl => match us, hl with | [_, _], _ => rfl)
  have D__law_draw := defAt_mk (st := s__law_draw) (ps := ["_law_deck", "_law_many"]) X G a__law_draw l__law_draw c__law_draw k__law_draw (fun _ _ _ _ _ _ us hl => match us, hl with | [_, _], _ => rfl)
  have D__law_web := defAt_mk (st := s__law_web) (ps := ["_law_deck", "_law_many", "_law_moves", "_law_most"]) X G a__law_web l__law_web c__law_web k__law_web (fun _ _ _ _ _ _ us hl => match us, hl with | [_, _, _, _], _ => rfl)
  have D__law_game := defAt_mk (st := s__law_game) (ps := ["_law_deck", "_law_many", "_law_moves", "_law_most"]) X G a__law_game l__law_game c__law_game k__law_game (fun _ _ _ _ _ _ us hl => match us, hl with | [_, _, _, _], _ => rfl)
  have D__law_held := defAt_mk (st := s__law_held) (ps := ["_law_match", "_law_side", "_law_path"]) X G a__law_held l__law_held c__law_held k__law_held (fun _ _ _ _ _ _ us hl => match us, hl with | [_, _, _], _ => rfl)
  have D__law_lines := defAt_mk (st := s__law_lines) (ps := ["_law_match", "_law_num"]) X G a__law_lines l__law_lines c__law_lines k__law_lines (fun _ _ _ _ _ _ us hl => match us, hl with | [_, _], _ => rfl)
  have D__law_drawn := defAt_mk (st := s__law_drawn) (ps := ["_law_deck", "_law_match", "_law_side"]) X G a__law_drawn l__law_drawn c__law_drawn k__law_drawn (fun _ _ _ _ _ _ us hl => match us, hl with | [_, _, _], _ => rfl)
  have D__law_play := defAt_mk (st := s__law_play) (ps := ["_law_match", "_law_lines_here", "_law_num"]) X G a__law_play l__law_play c__law_play k__law_play (fun _ _ _ _ _ _ us hl => match us, hl with | [_, _, _], _ => rfl)
  have D__law_steps_right := defAt_mk (st := s__law_steps_right) (ps := ["_law_match", "_law_num"]) X G a__law_steps_right l__law_steps_right c__law_steps_right k__law_steps_right (fun _ _ _ _ _ _ us hl => match us, hl with | [_, _], _ => rfl)
  have D__law_right := defAt_mk (st := s__law_right) (ps := ["_law_deck"]) X G a__law_right l__law_right c__law_right k__law_right (fun _ _ _ _ _ _ us hl => match us, hl with | [_], _ => rfl)
  let T : Top K mg := {
    f_turned := _, d_turned := _, D_turned := D_turned,
    f_is_whole := _, d_is_whole := _, D_is_whole := D_is_whole,
    f_is_whole_in := _, d_is_whole_in := _, D_is_whole_in := D_is_whole_in,
    f_is_pair := _, d_is_pair := _, D_is_pair := D_is_pair,
    f_check_count := _, d_check_count := _, D_check_count := D_check_count,
    f_is_web := _, d_is_web := _, D_is_web := D_is_web,
    f_is_node := _, d_is_node := _, D_is_node := D_is_node,
    f_is_move := _, d_is_move := _, D_is_move := D_is_move,
    f_walk_by_lines := _, d_walk_by_lines := _, D_walk_by_lines := D_walk_by_lines,
    f_first_best := _, d_first_best := _, D_first_best := D_first_best,
    f_is_game := _, d_is_game := _, D_is_game := D_is_game,
    f_check_game := _, d_check_game := _, D_check_game := D_check_game,
    f_check_owner := _, d_check_owner := _, D_check_owner := D_check_owner,
    f_is_way := _, d_is_way := _, D_is_way := D_is_way,
    f_held := _, d_held := _, D_held := D_held,
    f_held_web := _, d_held_web := _, D_held_web := D_held_web,
    f_game_turned := _, d_game_turned := _, D_game_turned := D_game_turned,
    f_turned_game := _, d_turned_game := _, D_turned_game := D_turned_game,
    f_game_steps := _, d_game_steps := _, D_game_steps := D_game_steps,
    f_steps_lines := _, d_steps_lines := _, D_steps_lines := D_steps_lines,
    f_lines_left := _, d_lines_left := _, D_lines_left := D_lines_left,
    f_line_left := _, d_line_left := _, D_line_left := D_line_left,
    f_steps_play := _, d_steps_play := _, D_steps_play := D_steps_play,
    f__law_open := _, d__law_open := _, D__law_open := D__law_open,
    f__law_draw := _, d__law_draw := _, D__law_draw := D__law_draw,
    f__law_web := _, d__law_web := _, D__law_web := D__law_web,
    f__law_game := _, d__law_game := _, D__law_game := D__law_game,
    f__law_held := _, d__law_held := _, D__law_held := D__law_held,
    f__law_lines := _, d__law_lines := _, D__law_lines := D__law_lines,
    f__law_drawn := _, d__law_drawn := _, D__law_drawn := D__law_drawn,
    f__law_play := _, d__law_play := _, D__law_play := D__law_play,
    f__law_steps_right := _, d__law_steps_right := _, D__law_steps_right := D__law_steps_right,
    f__law_right := _, d__law_right := _, D__law_right := D__law_right,
    b_len := PySem.W.mg_none_of X G z_len,
    b_isinstance := PySem.W.mg_none_of X G z_isinstance,
    b_abs := PySem.W.mg_none_of X G z_abs,
    b_all := PySem.W.mg_none_of X G z_all,
    b_max := PySem.W.mg_none_of X G z_max,
    b_min := PySem.W.mg_none_of X G z_min,
    b_sorted := PySem.W.mg_none_of X G z_sorted,
    b_repr := PySem.W.mg_none_of X G z_repr,
    b_int := PySem.W.mg_none_of X G z_int,
    b_bool := PySem.W.mg_none_of X G z_bool,
    b_tuple := PySem.W.mg_none_of X G z_tuple,
    b_list := PySem.W.mg_none_of X G z_list,
    b_range := PySem.W.mg_none_of X G z_range,
    b_enumerate := PySem.W.mg_none_of X G z_enumerate,
    b_zip := PySem.W.mg_none_of X G z_zip,
    t_MOST_NODES := _, c_MOST_NODES := PySem.W.mg_of X G g_MOST_NODES,
    t_MOST_MOVES := _, c_MOST_MOVES := PySem.W.mg_of X G g_MOST_MOVES,
    t_MOST_WEIGHT := _, c_MOST_WEIGHT := PySem.W.mg_of X G g_MOST_WEIGHT,
    p_OWNERS := _, c_OWNERS := PySem.W.mg_of X G g_OWNERS, v_OWNERS := fun H => .tup (xs := [.str "house", .str "guests"]) (.inr ⟨_, _, _, o_OWNERS, rfl, rfl, by simp [sizeLine_eq], .cons ⟨_, rfl⟩ (.cons ⟨_, rfl⟩ .nil)⟩) (.cons (.str _) (.cons (.str _) .nil)),
    t_MOST_GAME_NODES := _, c_MOST_GAME_NODES := PySem.W.mg_of X G g_MOST_GAME_NODES,
    t_MOST_GAME_WEIGHT := _, c_MOST_GAME_WEIGHT := PySem.W.mg_of X G g_MOST_GAME_WEIGHT,
    t_MOST_STEPS := _, c_MOST_STEPS := PySem.W.mg_of X G g_MOST_STEPS,
    KN_steps_lines__count_game := ⟨fun s us ws _ l1 l2 => match us, ws, l1, l2 with | [], [_, _], _, _ => .of_eq rfl, fun _ h => kw_vals h _⟩,
    KN_game_steps__count_game := ⟨fun s us ws _ l1 l2 => match us, ws, l1, l2 with | [], [_, _], _, _ => .of_eq rfl, fun _ h => kw_vals h _⟩,
    KN_steps_play__count_game := ⟨fun s us ws _ l1 l2 => match us, ws, l1, l2 with | [], [_, _], _, _ => .of_eq rfl, fun _ h => kw_vals h _⟩,
    KN_game_turned__game := ⟨fun s us ws _ l1 l2 => match us, ws, l1, l2 with | [], [_], _, _ => .of_eq rfl, fun _ h => kw_vals h _⟩,
    KN_held__way_owner_game := ⟨fun s us ws _ l1 l2 => match us, ws, l1, l2 with | [], [_, _, _], _, _ => .of_eq rfl, fun _ h => kw_vals h _⟩ }
  exact ⟨PySem.W.fnOf "law" "law" (defArgs s_law) (defBody s_law) (defScope s_law) .none kV_law dc_law pm_law an_law cd_law ct_law, spA K spLawA, fun s v => .of_eq rfl, fun H a ns hl hS => spLaw_of hl hS, fun base _ _ => ok_law T (fun_mk (st := s_law) l_law c_law k_law)⟩
end K14
open PySem PySem.W PyProof.Rows
set_option maxRecDepth 100000 in
set_option maxHeartbeats 0 in
theorem PySem.Challenge.cw_parlourday_k14_games_held_and_played_holds : PySem.Challenge.rw_parlourday_k14_games_held_and_played.Holds := by
  w_on; o_law; k_head; (case hw => w_witness2)
  k_fill
  refine Grd.walk_ofG0 (l := PySem.Challenge.rw_parlourday_k14_games_held_and_played) (n := 63) (k := 11) (x := "_law_script") rfl (by decide) rfl ⟨rfl, by decide, by decide⟩ (fun w h Y => PySem.W.kIn_of Y) ?F
  case F =>
    intro w mg fa h KX G hmg
    refine' K14.all_mk KX G hmg ?a_turned ?l_turned ?c_turned ?k_turned ?a_is_whole ?l_is_whole ?c_is_whole ?k_is_whole ?a_is_whole_in ?l_is_whole_in ?c_is_whole_in ?k_is_whole_in ?a_is_pair ?l_is_pair ?c_is_pair ?k_is_pair ?a_check_count ?l_check_count ?c_check_count ?k_check_count ?a_is_web ?l_is_web ?c_is_web ?k_is_web ?a_is_node ?l_is_node ?c_is_node ?k_is_node ?a_is_move ?l_is_move ?c_is_move ?k_is_move ?a_walk_by_lines ?l_walk_by_lines ?c_walk_by_lines ?k_walk_by_lines ?a_first_best ?l_first_best ?c_first_best ?k_first_best ?a_is_game ?l_is_game ?c_is_game ?k_is_game ?a_check_game ?l_check_game ?c_check_game ?k_check_game ?a_check_owner ?l_check_owner ?c_check_owner ?k_check_owner ?a_is_way ?l_is_way ?c_is_way ?k_is_way ?a_held ?l_held ?c_held ?k_held ?a_held_web ?l_held_web ?c_held_web ?k_held_web ?a_game_turned ?l_game_turned ?c_game_turned ?k_game_turned ?a_turned_game ?l_turned_game ?c_turned_game ?k_turned_game ?a_game_steps ?l_game_steps ?c_game_steps ?k_game_steps ?a_steps_lines ?l_steps_lines ?c_steps_lines ?k_steps_lines ?a_lines_left ?l_lines_left ?c_lines_left ?k_lines_left ?a_line_left ?l_line_left ?c_line_left ?k_line_left ?a_steps_play ?l_steps_play ?c_steps_play ?k_steps_play ?a__law_open ?l__law_open ?c__law_open ?k__law_open ?a__law_draw ?l__law_draw ?c__law_draw ?k__law_draw ?a__law_web ?l__law_web ?c__law_web ?k__law_web ?a__law_game ?l__law_game ?c__law_game ?k__law_game ?a__law_held ?l__law_held ?c__law_held ?k__law_held ?a__law_lines ?l__law_lines ?c__law_lines ?k__law_lines ?a__law_drawn ?l__law_drawn ?c__law_drawn ?k__law_drawn ?a__law_play ?l__law_play ?c__law_play ?k__law_play ?a__law_steps_right ?l__law_steps_right ?c__law_steps_right ?k__law_steps_right ?a__law_right ?l__law_right ?c__law_right ?k__law_right ?a_law ?l_law ?c_law ?k_law ?z_len ?z_isinstance ?z_abs ?z_all ?z_max ?z_min ?z_sorted ?z_repr ?z_int ?z_bool ?z_tuple ?z_list ?z_range ?z_enumerate ?z_zip ?g_MOST_NODES ?g_MOST_MOVES ?g_MOST_WEIGHT ?g_OWNERS ?o_OWNERS ?g_MOST_GAME_NODES ?g_MOST_GAME_WEIGHT ?g_MOST_STEPS
    (case a_turned => k_is); (case l_turned => k_is); (case c_turned => k_is); (case k_turned => k_is); (case a_is_whole => k_is); (case l_is_whole => k_is); (case c_is_whole => k_is); (case k_is_whole => k_is); (case a_is_whole_in => k_is); (case l_is_whole_in => k_is); (case c_is_whole_in => k_is); (case k_is_whole_in => k_is); (case a_is_pair => k_is); (case l_is_pair => k_is); (case c_is_pair => k_is); (case k_is_pair => k_is); (case a_check_count => k_is); (case l_check_count => k_is); (case c_check_count => k_is); (case k_check_count => k_is); (case a_is_web => k_is); (case l_is_web => k_is); (case c_is_web => k_is); (case k_is_web => k_is); (case a_is_node => k_is); (case l_is_node => k_is); (case c_is_node => k_is); (case k_is_node => k_is); (case a_is_move => k_is); (case l_is_move => k_is); (case c_is_move => k_is); (case k_is_move => k_is); (case a_walk_by_lines => k_is); (case l_walk_by_lines => k_is); (case c_walk_by_lines => k_is); (case k_walk_by_lines => k_is); (case a_first_best => k_is); (case l_first_best => k_is); (case c_first_best => k_is); (case k_first_best => k_is); (case a_is_game => k_is); (case l_is_game => k_is); (case c_is_game => k_is); (case k_is_game => k_is); (case a_check_game => k_is); (case l_check_game => k_is); (case c_check_game => k_is); (case k_check_game => k_is); (case a_check_owner => k_is); (case l_check_owner => k_is); (case c_check_owner => k_is); (case k_check_owner => k_is); (case a_is_way => k_is); (case l_is_way => k_is); (case c_is_way => k_is); (case k_is_way => k_is); (case a_held => k_is); (case l_held => k_is); (case c_held => k_is); (case k_held => k_is); (case a_held_web => k_is); (case l_held_web => k_is); (case c_held_web => k_is); (case k_held_web => k_is); (case a_game_turned => k_is); (case l_game_turned => k_is); (case c_game_turned => k_is); (case k_game_turned => k_is); (case a_turned_game => k_is); (case l_turned_game => k_is); (case c_turned_game => k_is); (case k_turned_game => k_is); (case a_game_steps => k_is); (case l_game_steps => k_is); (case c_game_steps => k_is); (case k_game_steps => k_is); (case a_steps_lines => k_is); (case l_steps_lines => k_is); (case c_steps_lines => k_is); (case k_steps_lines => k_is); (case a_lines_left => k_is); (case l_lines_left => k_is); (case c_lines_left => k_is); (case k_lines_left => k_is); (case a_line_left => k_is); (case l_line_left => k_is); (case c_line_left => k_is); (case k_line_left => k_is); (case a_steps_play => k_is); (case l_steps_play => k_is); (case c_steps_play => k_is); (case k_steps_play => k_is); (case a__law_open => k_is); (case l__law_open => k_is); (case c__law_open => k_is); (case k__law_open => k_is); (case a__law_draw => k_is); (case l__law_draw => k_is); (case c__law_draw => k_is); (case k__law_draw => k_is); (case a__law_web => k_is); (case l__law_web => k_is); (case c__law_web => k_is); (case k__law_web => k_is); (case a__law_game => k_is); (case l__law_game => k_is); (case c__law_game => k_is); (case k__law_game => k_is); (case a__law_held => k_is); (case l__law_held => k_is); (case c__law_held => k_is); (case k__law_held => k_is); (case a__law_lines => k_is); (case l__law_lines => k_is); (case c__law_lines => k_is); (case k__law_lines => k_is); (case a__law_drawn => k_is); (case l__law_drawn => k_is); (case c__law_drawn => k_is); (case k__law_drawn => k_is); (case a__law_play => k_is); (case l__law_play => k_is); (case c__law_play => k_is); (case k__law_play => k_is); (case a__law_steps_right => k_is); (case l__law_steps_right => k_is); (case c__law_steps_right => k_is); (case k__law_steps_right => k_is); (case a__law_right => k_is); (case l__law_right => k_is); (case c__law_right => k_is); (case k__law_right => k_is); (case a_law => k_is); (case l_law => k_is); (case c_law => k_is); (case k_law => k_is); (case z_len => k_is); (case z_isinstance => k_is); (case z_abs => k_is); (case z_all => k_is); (case z_max => k_is); (case z_min => k_is); (case z_sorted => k_is); (case z_repr => k_is); (case z_int => k_is); (case z_bool => k_is); (case z_tuple => k_is); (case z_list => k_is); (case z_range => k_is); (case z_enumerate => k_is); (case z_zip => k_is); (case g_MOST_NODES => k_is); (case g_MOST_MOVES => k_is); (case g_MOST_WEIGHT => k_is); (case g_OWNERS => k_is); (case o_OWNERS => k_is); (case g_MOST_GAME_NODES => k_is); (case g_MOST_GAME_WEIGHT => k_is); (case g_MOST_STEPS => k_is)

