import PyProof.Rows.All
import Wide.All
import OpenK.AllK
import Wide.FinOn
import HandS.ForMost
import HandS.IsInst
import HandS.Style
import HandS.TupAny
import HandS.TupMul
import HandS.Conv
import HandS.Defaults
import HandS.Wide
import HandS.Codes
import HandS.Nested
import HandS.Zip
import HandS.Lambda
import HandS.EndTab
import HandS.RaiseMore
import HandS.Dict
import HandS.Strs
import HandS.SetFor
import KE.GoesEnum
import HandS.Iter
import HandS.TryOnly
import HandS.Exc
import HandS.ExcField
import KE.KExcSuper
import KE.KSuper
import HandS.ExcIs
import HandS.WordsExc
import HandS.HotCalls
import PySem.Challenge.RW_parlourday_k00_error_classes
set_option Elab.async false
set_option linter.all false
set_option maxRecDepth 100000
set_option maxHeartbeats 1000000
/-! an abstract machine over data: values that never change (PyData), lists that do (by their places) -/
namespace Dat
open PySem PySem.Spec PyProof.Rows L2
mutual
inductive Dq (K : PySem.W.Frag) (H : Hp) : V → PyData → Prop
  | non : Dq K H .non .none
  | bl (b : Bool) : Dq K H (.bl b) (.bool b)
  | int (i : Int) : Dq K H (.int i) (.int i)
  | str (x : Str) : Dq K H (.str x) (.str x)
  | lst {a : Addr} {xs : List V} {ds : List PyData} (h : H a = some (.lst xs)) (g : DqAll K H xs ds) : Dq K H (.ref a) (.list ds)
  | tup {a : Addr} {xs : List V} {ds : List PyData} (h : SqT K H a xs) (g : DqAll K H xs ds) : Dq K H (.ref a) (.tuple ds)
  | dct {a : Addr} (h : H a = some (.dK [])) : Dq K H (.ref a) (.dict [])
inductive DqAll (K : PySem.W.Frag) (H : Hp) : List V → List PyData → Prop
  | nil : DqAll K H [] []
  | cons {v : V} {vs : List V} {d : PyData} {ds : List PyData} (h : Dq K H v d) (g : DqAll K H vs ds) : DqAll K H (v :: vs) (d :: ds)
end
theorem sqT_same {K : PySem.W.Frag} {H H' : Hp} {a : Addr} {xs : List V} (s : Same H H') (h : SqT K H a xs) : SqT K H' a xs := by
  rcases h with (h | ⟨o, h⟩) | h
  · exact .inl (.inl (s _ _ h))
  · exact .inl (.inr ⟨o, s _ _ h⟩)
  · exact .inr h
section
variable {K : PySem.W.Frag} {H H' : Hp}
mutual
theorem Dq.same (s : Same H H') : ∀ {v : V} {d : PyData}, Dq K H v d → Dq K H' v d
  | _, _, .non => .non
  | _, _, .bl b => .bl b
  | _, _, .int i => .int i
  | _, _, .str x => .str x
  | _, _, .lst h g => .lst (s _ _ h) (DqAll.same s g)
  | _, _, .tup h g => .tup (sqT_same s h) (DqAll.same s g)
  | _, _, .dct h => .dct (s _ _ h)
theorem DqAll.same (s : Same H H') : ∀ {vs : List V} {ds : List PyData}, DqAll K H vs ds → DqAll K H' vs ds
  | _, _, .nil => .nil
  | _, _, .cons h g => .cons (Dq.same s h) (DqAll.same s g)
end
theorem DqAll.length : ∀ {vs : List V} {ds : List PyData}, DqAll K H vs ds → vs.length = ds.length
  | _, _, .nil => rfl
  | _, _, .cons _ g => by rw [List.length_cons, List.length_cons, DqAll.length g]
theorem DqAll.get : ∀ {vs : List V} {ds : List PyData} {i : Nat} {d : PyData}, DqAll K H vs ds → ds[i]? = some d → ∃ v, vs[i]? = some v ∧ Dq K H v d
  | _, _, _, _, .nil, e => by simp at e
  | _, _, 0, _, .cons h _, e => by
    rw [List.getElem?_cons_zero] at e
    cases e
    exact ⟨_, rfl, h⟩
  | _, _, i + 1, _, .cons _ g, e => by
    rw [List.getElem?_cons_succ] at e
    obtain ⟨v, e2, h⟩ := DqAll.get g e
    exact ⟨v, by rw [List.getElem?_cons_succ]; exact e2, h⟩
theorem DqAll.getV : ∀ {vs : List V} {ds : List PyData} {i : Nat} {v : V}, DqAll K H vs ds → vs[i]? = some v → ∃ d, ds[i]? = some d ∧ Dq K H v d
  | _, _, _, _, .nil, e => by simp at e
  | _, _, 0, _, .cons h _, e => by
    rw [List.getElem?_cons_zero] at e
    cases e
    exact ⟨_, rfl, h⟩
  | _, _, i + 1, _, .cons _ g, e => by
    rw [List.getElem?_cons_succ] at e
    obtain ⟨v, e2, h⟩ := DqAll.getV g e
    exact ⟨v, by rw [List.getElem?_cons_succ]; exact e2, h⟩
theorem DqAll.app : ∀ {vs us : List V} {ds es : List PyData}, DqAll K H vs ds → DqAll K H us es → DqAll K H (vs ++ us) (ds ++ es)
  | _, _, _, _, .nil, q => q
  | _, _, _, _, .cons h g, q => .cons h (DqAll.app g q)
theorem DqAll.take : ∀ {vs : List V} {ds : List PyData} (n : Nat), DqAll K H vs ds → DqAll K H (vs.take n) (ds.take n)
  | _, _, 0, _ => by rw [List.take_zero, List.take_zero]; exact .nil
  | _, _, n + 1, .nil => by rw [List.take_nil, List.take_nil]; exact .nil
  | _, _, n + 1, .cons h g => by rw [List.take_succ_cons, List.take_succ_cons]; exact .cons h (DqAll.take n g)
theorem DqAll.drop : ∀ {vs : List V} {ds : List PyData} (n : Nat), DqAll K H vs ds → DqAll K H (vs.drop n) (ds.drop n)
  | _, _, 0, h => by rw [List.drop_zero, List.drop_zero]; exact h
  | _, _, n + 1, .nil => by rw [List.drop_nil, List.drop_nil]; exact .nil
  | _, _, n + 1, .cons h g => by rw [List.drop_succ_cons, List.drop_succ_cons]; exact DqAll.drop n g
theorem DqAll.rev : ∀ {vs : List V} {ds : List PyData}, DqAll K H vs ds → DqAll K H vs.reverse ds.reverse
  | _, _, .nil => .nil
  | _, _, .cons h g => by
    rw [List.reverse_cons, List.reverse_cons]
    exact DqAll.app (DqAll.rev g) (.cons h .nil)
theorem DqAll.ints : ∀ {ns : List Int} {vs : List V}, DqAll K H vs (ns.map PyData.int) → vs = ns.map V.int
  | [], _, h => by cases h; rfl
  | n :: r, _, h => by
    rw [List.map_cons] at h
    cases h with
    | cons h g =>
      cases h
      rw [DqAll.ints g, List.map_cons]
theorem DqAll.ofInts : ∀ {ns : List Int}, DqAll K H (ns.map V.int) (ns.map PyData.int)
  | [] => .nil
  | n :: r => .cons (.int n) DqAll.ofInts
end
/-! ### abstract values, the store of lists that change -/
inductive Av
  | dat (d : PyData)
  | ptr (p : Addr)
  | tup (as : List Av)
  | scr (ns : List Int)
  | fn (f : Addr) (os : List (Addr × HO)) (cap : List (V × PyData))
  | ty (T : String)
mutual
inductive VOk (K : PySem.W.Frag) (F : Hp) : Av → V → Prop
  | dat {d : PyData} {v : V} (h : Dq K F v d) : VOk K F (.dat d) v
  | ptr (p : Addr) : VOk K F (.ptr p) (.ref p)
  | tup {a : Addr} {as : List Av} {xs : List V} (h : F a = some (.tup xs)) (g : VAll K F as xs) : VOk K F (.tup as) (.ref a)
  | scr {a : Addr} {ns : List Int} (h : SqL K F a (ns.map V.int)) : VOk K F (.scr ns) (.ref a)
  | fn {f : Addr} {os : List (Addr × HO)} {cap : List (V × PyData)} (h : ∀ p ∈ os, F p.1 = some p.2) (g : ∀ c ∈ cap, Dq K F c.1 c.2) : VOk K F (.fn f os cap) (.ref f)
  | ty (T : String) : VOk K F (.ty T) (.ty T)
inductive VAll (K : PySem.W.Frag) (F : Hp) : List Av → List V → Prop
  | nil : VAll K F [] []
  | cons {a : Av} {as : List Av} {v : V} {vs : List V} (h : VOk K F a v) (g : VAll K F as vs) : VAll K F (a :: as) (v :: vs)
end
/-- what stands where something may change besides lists: an instance, a dict of ints and texts -/
inductive Ob
  | ins (C dx : Addr) (fs : List (Str × Av))
  | dk (kvs : List (Key × Av))
/-- the lists that may change, the instances and dicts that may -/
structure AH where
  l : Addr → Option (List Av)
  o : Addr → Option Ob
instance : CoeFun AH (fun _ => Addr → Option (List Av)) := ⟨AH.l⟩
theorem AH.ext {Ω Ω' : AH} (h1 : ∀ a, Ω.l a = Ω'.l a) (h2 : Ω.o = Ω'.o) : Ω = Ω' := by
  cases Ω
  cases Ω'
  cases h2
  congr
  exact funext h1
def AH0 : AH := ⟨fun _ => none, fun _ => none⟩
def put (Ω : AH) (p : Addr) (as : List Av) : AH := ⟨fun a => if a = p then some as else Ω a, Ω.o⟩
def del (Ω : AH) (p : Addr) : AH := ⟨fun a => if a = p then none else Ω a, Ω.o⟩
def puto (Ω : AH) (p : Addr) (u : Ob) : AH := ⟨Ω.l, fun a => if a = p then some u else Ω.o a⟩
theorem put_same {Ω : AH} {p : Addr} {as : List Av} : put Ω p as p = some as := if_pos rfl
theorem put_ne {Ω : AH} {p q : Addr} {as : List Av} (h : q ≠ p) : put Ω p as q = Ω q := if_neg h
theorem puto_same {Ω : AH} {p : Addr} {u : Ob} : (puto Ω p u).o p = some u := if_pos rfl
theorem puto_ne {Ω : AH} {p q : Addr} {u : Ob} (h : q ≠ p) : (puto Ω p u).o q = Ω.o q := if_neg h
theorem put_put {Ω : AH} {p : Addr} {as bs : List Av} : put (put Ω p as) p bs = put Ω p bs := by
  refine AH.ext (fun a => ?_) rfl
  unfold put
  dsimp only
  split <;> rfl
theorem puto_puto {Ω : AH} {p : Addr} {u v : Ob} : puto (puto Ω p u) p v = puto Ω p v := by
  refine AH.ext (fun a => rfl) (funext fun a => ?_)
  unfold puto
  dsimp only
  split <;> rfl
theorem puto_put {Ω : AH} {p q : Addr} {u : Ob} {as : List Av} : puto (put Ω p as) q u = put (puto Ω q u) p as := rfl
theorem del_put {Ω : AH} {p : Addr} {as : List Av} (h : Ω p = none) : del (put Ω p as) p = Ω := by
  refine AH.ext (fun a => ?_) rfl
  unfold del put
  dsimp only
  split
  · next e => rw [e, h]
  · rfl
theorem put_id {Ω : AH} {p : Addr} {as : List Av} (h : Ω p = some as) : put Ω p as = Ω := by
  refine AH.ext (fun a => ?_) rfl
  unfold put
  dsimp only
  split
  · next e => rw [e, h]
  · rfl
theorem puto_id {Ω : AH} {p : Addr} {u : Ob} (h : Ω.o p = some u) : puto Ω p u = Ω := by
  refine AH.ext (fun a => rfl) (funext fun a => ?_)
  unfold puto
  dsimp only
  split
  · next e => rw [e, h]
  · rfl
theorem ne_of_Ω {Ω : AH} {p q : Addr} {as : List Av} (h : Ω p = some as) (n : Ω q = none) : p ≠ q := fun e => by
  rw [e, n] at h
  cases h
/-- which tables of code objects are told -/
class Tb (K : PySem.W.Frag) where
  T : List (Addr × Str)
def ntb : Option HO → Option HO
  | some (.tbl _) => none
  | o => o
theorem ntb_of {o : Option HO} {x : HO} (e : ntb o = some x) : o = some x ∧ ∀ q, x ≠ .tbl q := by
  cases o with
  | none => cases e
  | some y => cases y <;> first | (cases e; done) | (cases e; exact ⟨rfl, fun q z => by cases z⟩)
theorem ntb_to {x : HO} (n : ∀ q, x ≠ .tbl q) : ntb (some x) = some x := by
  cases x <;> first | rfl | (exact absurd rfl (n _))
/-- what is seen of the heap besides what may change and the tables -/
def AH.Off (Ω : AH) (a : Addr) : Prop := Ω.l a = none ∧ Ω.o a = none
def Fz (Ω : AH) (H : Hp) : Hp := fun a => match Ω.l a, Ω.o a with
  | none, none => ntb (H a)
  | _, _ => none
theorem Fz_none {Ω : AH} {H : Hp} {a : Addr} (h : Ω.Off a) : Fz Ω H a = ntb (H a) := by
  unfold Fz
  rw [h.1, h.2]
theorem Fz_some {Ω : AH} {H : Hp} {a : Addr} {as : List Av} (h : Ω a = some as) : Fz Ω H a = none := by
  unfold Fz
  rw [h]
theorem Fz_someO {Ω : AH} {H : Hp} {a : Addr} {u : Ob} (h : Ω.o a = some u) : Fz Ω H a = none := by
  unfold Fz
  rw [h]
  cases Ω.l a <;> rfl
theorem Fz_of {Ω : AH} {H : Hp} {a : Addr} {o : HO} (e : Fz Ω H a = some o) : Ω.Off a ∧ H a = some o ∧ ∀ q, o ≠ .tbl q := by
  unfold Fz at e
  split at e
  · next h1 h2 => exact ⟨⟨h1, h2⟩, (ntb_of e).1, (ntb_of e).2⟩
  · cases e
theorem Fz_to {Ω : AH} {H : Hp} {a : Addr} {o : HO} (n : Ω.Off a) (e : H a = some o) (t : ∀ q, o ≠ .tbl q) : Fz Ω H a = some o := by
  rw [Fz_none n, e, ntb_to t]
theorem Fz_le {Ω : AH} {H : Hp} : Same (Fz Ω H) H := fun a o e => (Fz_of e).2.1
theorem Fz_ext {Ω : AH} {H H' : Hp} (s : LamX.ExtN H H') : Same (Fz Ω H) (Fz Ω H') := fun a o e => by
  obtain ⟨h1, h2, h3⟩ := Fz_of e
  exact Fz_to h1 (s a o h2 h3) h3
theorem Fz_same {Ω : AH} {H H' : Hp} (s : Same H H') : Same (Fz Ω H) (Fz Ω H') := Fz_ext (LamX.ExtN.of s)
/-- where the same places are off, all but one place is as it was, and that one is not seen -/
theorem Fz_eq {Ω Ω' : AH} {H H' : Hp} {p : Addr} (h : ∀ a, a ≠ p → (Ω'.l a = Ω.l a ∧ Ω'.o a = Ω.o a ∧ H' a = H a)) (h1 : Fz Ω' H' p = none) (h2 : Fz Ω H p = none) : Fz Ω' H' = Fz Ω H := by
  funext a
  by_cases e : a = p
  · rw [e, h1, h2]
  · obtain ⟨e1, e2, e3⟩ := h a e
    unfold Fz
    rw [e1, e2, e3]
theorem Fz_unset {Ω : AH} {H : Hp} {p : Addr} (n : H p = none) : Fz Ω H p = none := by
  unfold Fz
  split
  · rw [n]
    rfl
  · rfl
theorem Fz_new {Ω : AH} {H : Hp} {p : Addr} {o : HO} {as : List Av} (n : H p = none) : Fz (put Ω p as) (upd H p o) = Fz Ω H :=
  Fz_eq (fun a e => ⟨put_ne e, rfl, upd_ne e⟩) (Fz_some put_same) (Fz_unset n)
theorem Fz_newo {Ω : AH} {H : Hp} {p : Addr} {o : HO} {u : Ob} (n : H p = none) : Fz (puto Ω p u) (upd H p o) = Fz Ω H :=
  Fz_eq (fun a e => ⟨rfl, puto_ne e, upd_ne e⟩) (Fz_someO puto_same) (Fz_unset n)
theorem Fz_put {Ω : AH} {H : Hp} {p : Addr} {o : HO} {as bs : List Av} (n : Ω p = some bs) : Fz (put Ω p as) (upd H p o) = Fz Ω H :=
  Fz_eq (fun a e => ⟨put_ne e, rfl, upd_ne e⟩) (Fz_some put_same) (Fz_some n)
theorem Fz_puto {Ω : AH} {H : Hp} {p : Addr} {o : HO} {u v : Ob} (n : Ω.o p = some v) : Fz (puto Ω p u) (upd H p o) = Fz Ω H :=
  Fz_eq (fun a e => ⟨rfl, puto_ne e, upd_ne e⟩) (Fz_someO puto_same) (Fz_someO n)
theorem Fz_del {Ω : AH} {H : Hp} {p : Addr} : Same (Fz Ω H) (Fz (del Ω p) H) := fun a o e => by
  obtain ⟨n, h2, h3⟩ := Fz_of e
  have m : (del Ω p).l a = none := by
    unfold del
    dsimp only
    split
    · rfl
    · exact n.1
  exact Fz_to ⟨m, n.2⟩ h2 h3
/-- a list's own place is no table, no code object -/
theorem tabs_put {T : List (Addr × Str)} {H : Hp} {p : Addr} {xs ys : List V} (t : LamX.Tabs T H) (e : H p = some (.lst xs)) : LamX.Tabs T (upd H p (.lst ys)) := fun q hq => by
  obtain ⟨ps, h1, h2, h3⟩ := t q hq
  have ne : q.1 ≠ p := fun z => by
    rw [z, e] at h1
    cases h1
  refine ⟨ps, by rw [upd_ne ne]; exact h1, h2, fun pos cv hc => ?_⟩
  obtain ⟨c, e1, e2⟩ := h3 pos cv hc
  have nc : c ≠ p := fun z => by
    rw [z, e] at e2
    unfold LamX.CodeO at e2
    cases e2
  exact ⟨c, e1, by rw [upd_ne nc]; exact e2⟩
section
variable {K : PySem.W.Frag} {F F' : Hp}
mutual
theorem VOk.same (s : Same F F') : ∀ {a : Av} {v : V}, VOk K F a v → VOk K F' a v
  | _, _, .dat h => .dat (h.same s)
  | _, _, .ptr p => .ptr p
  | _, _, .tup h g => .tup (s _ _ h) (VAll.same s g)
  | _, _, .scr h => .scr (s.seq h)
  | _, _, .fn h g => .fn (fun p m => s _ _ (h p m)) (fun c m => (g c m).same s)
  | _, _, .ty T => .ty T
theorem VAll.same (s : Same F F') : ∀ {as : List Av} {vs : List V}, VAll K F as vs → VAll K F' as vs
  | _, _, .nil => .nil
  | _, _, .cons h g => .cons (VOk.same s h) (VAll.same s g)
end
theorem VAll.length : ∀ {as : List Av} {vs : List V}, VAll K F as vs → vs.length = as.length
  | _, _, .nil => rfl
  | _, _, .cons _ g => by rw [List.length_cons, List.length_cons, VAll.length g]
theorem VAll.get : ∀ {as : List Av} {vs : List V} {i : Nat} {a : Av}, VAll K F as vs → as[i]? = some a → ∃ v, vs[i]? = some v ∧ VOk K F a v
  | _, _, _, _, .nil, e => by simp at e
  | _, _, 0, _, .cons h _, e => by
    rw [List.getElem?_cons_zero] at e
    cases e
    exact ⟨_, rfl, h⟩
  | _, _, i + 1, _, .cons _ g, e => by
    rw [List.getElem?_cons_succ] at e
    obtain ⟨v, e2, h⟩ := VAll.get g e
    exact ⟨v, by rw [List.getElem?_cons_succ]; exact e2, h⟩
theorem VAll.app : ∀ {as bs : List Av} {vs us : List V}, VAll K F as vs → VAll K F bs us → VAll K F (as ++ bs) (vs ++ us)
  | _, _, _, _, .nil, q => q
  | _, _, _, _, .cons h g, q => .cons h (VAll.app g q)
theorem VAll.set : ∀ {as : List Av} {vs : List V} {a : Av} {v : V} (i : Nat), VAll K F as vs → VOk K F a v → VAll K F (as.set i a) (vs.set i v)
  | _, _, _, _, _, .nil, _ => .nil
  | _, _, _, _, 0, .cons _ g, k => .cons k g
  | _, _, _, _, i + 1, .cons h g, k => .cons h (VAll.set i g k)
theorem VAll.dats : ∀ {ds : List PyData} {vs : List V}, VAll K F (ds.map .dat) vs → DqAll K F vs ds
  | [], _, h => by cases h; exact .nil
  | d :: r, _, h => by
    rw [List.map_cons] at h
    cases h with
    | cons h g =>
      cases h with
      | dat h => exact .cons h (VAll.dats g)
theorem VAll.ofDats : ∀ {ds : List PyData} {vs : List V}, DqAll K F vs ds → VAll K F (ds.map .dat) vs
  | _, _, .nil => .nil
  | _, _, .cons h g => .cons (.dat h) (VAll.ofDats g)
end
/-- names and keys with their values -/
inductive PrAll (K : PySem.W.Frag) (F : Hp) {κ : Type} : List (κ × Av) → List (κ × V) → Prop
  | nil : PrAll K F [] []
  | cons {k : κ} {a : Av} {v : V} {as : List (κ × Av)} {vs : List (κ × V)} (h : VOk K F a v) (g : PrAll K F as vs) : PrAll K F ((k, a) :: as) ((k, v) :: vs)
inductive ObOk (K : PySem.W.Frag) (F : Hp) : Ob → HO → Prop
  | ins {C dx : Addr} {fs : List (Str × Av)} {vs : List (Str × V)} (h : PrAll K F fs vs) : ObOk K F (.ins C dx fs) (.ins C dx vs)
  | dk {kvs : List (Key × Av)} {vs : List (Key × V)} (h : PrAll K F kvs vs) : ObOk K F (.dk kvs) (.dK vs)
theorem PrAll.same {K : PySem.W.Frag} {F F' : Hp} (s : Same F F') {κ : Type} : ∀ {as : List (κ × Av)} {vs : List (κ × V)}, PrAll K F as vs → PrAll K F' as vs
  | _, _, .nil => .nil
  | _, _, .cons h g => .cons (h.same s) (PrAll.same s g)
theorem ObOk.same {K : PySem.W.Frag} {F F' : Hp} (s : Same F F') {u : Ob} {x : HO} : ObOk K F u x → ObOk K F' u x
  | .ins h => .ins (h.same s)
  | .dk h => .dk (h.same s)
theorem ObOk.nlst {K : PySem.W.Frag} {F : Hp} {u : Ob} {xs : List V} (h : ObOk K F u (.lst xs)) : False := by cases h
theorem ObOk.ntbl {K : PySem.W.Frag} {F : Hp} {u : Ob} {x : HO} (h : ObOk K F u x) : ∀ q, x ≠ .tbl q := by
  intro q z
  subst z
  cases h
inductive Slots (K : PySem.W.Frag) (F : Hp) : List (Option Av) → List (Option V) → Prop
  | nil : Slots K F [] []
  | no {x : Option V} {Γ : List (Option Av)} {σ : List (Option V)} (g : Slots K F Γ σ) : Slots K F (none :: Γ) (x :: σ)
  | yes {a : Av} {v : V} {Γ : List (Option Av)} {σ : List (Option V)} (h : VOk K F a v) (g : Slots K F Γ σ) : Slots K F (some a :: Γ) (some v :: σ)
section
variable {K : PySem.W.Frag} {F F' : Hp}
theorem Slots.same (s : Same F F') : ∀ {Γ : List (Option Av)} {σ : List (Option V)}, Slots K F Γ σ → Slots K F' Γ σ
  | _, _, .nil => .nil
  | _, _, .no g => .no (Slots.same s g)
  | _, _, .yes h g => .yes (h.same s) (Slots.same s g)
theorem Slots.get : ∀ {Γ : List (Option Av)} {σ : List (Option V)} {i : Nat} {a : Av}, Slots K F Γ σ → Γ[i]? = some (some a) → ∃ v, σ[i]? = some (some v) ∧ VOk K F a v
  | _, _, _, _, .nil, e => by simp at e
  | _, _, 0, _, .no _, e => by simp at e
  | _, _, 0, _, .yes h _, e => by
    rw [List.getElem?_cons_zero] at e
    cases e
    exact ⟨_, rfl, h⟩
  | _, _, i + 1, _, .no g, e => by
    rw [List.getElem?_cons_succ] at e
    obtain ⟨v, e2, h⟩ := Slots.get g e
    exact ⟨v, by rw [List.getElem?_cons_succ]; exact e2, h⟩
  | _, _, i + 1, _, .yes _ g, e => by
    rw [List.getElem?_cons_succ] at e
    obtain ⟨v, e2, h⟩ := Slots.get g e
    exact ⟨v, by rw [List.getElem?_cons_succ]; exact e2, h⟩
theorem Slots.set : ∀ {Γ : List (Option Av)} {σ : List (Option V)} {a : Av} {v : V} (i : Nat), Slots K F Γ σ → VOk K F a v → Slots K F (Γ.set i (some a)) (σ.set i (some v))
  | _, _, _, _, _, .nil, _ => .nil
  | _, _, _, _, 0, .no g, k => .yes k g
  | _, _, _, _, 0, .yes _ g, k => .yes k g
  | _, _, _, _, i + 1, .no g, k => .no (Slots.set i g k)
  | _, _, _, _, i + 1, .yes h g, k => .yes h (Slots.set i g k)
theorem Slots.clear : ∀ {Γ : List (Option Av)} {σ : List (Option V)} (i : Nat), Slots K F Γ σ → Slots K F (Γ.set i none) (σ.set i none)
  | _, _, _, .nil => .nil
  | _, _, 0, .no g => .no g
  | _, _, 0, .yes _ g => .no g
  | _, _, i + 1, .no g => .no (Slots.clear i g)
  | _, _, i + 1, .yes h g => .yes h (Slots.clear i g)
theorem Slots.start {N : List Str} : ∀ {as : List Av} {vs : List V}, VAll K F as vs → ∀ n, Slots K F (as.map some ++ List.replicate n none) (vs.map some ++ List.replicate n none)
  | _, _, .nil, 0 => .nil
  | _, _, .nil, n + 1 => .no (Slots.start (N := N) .nil n)
  | _, _, .cons h g, n => .yes h (Slots.start (N := N) g n)
end
def wipeA (Γ : List (Option Av)) : List Nat → List (Option Av)
  | [] => Γ
  | v :: vs => (wipeA Γ vs).set v none
theorem Slots.wipe {K : PySem.W.Frag} {F : Hp} {Γ : List (Option Av)} {σ : List (Option V)} (h : Slots K F Γ σ) : ∀ vs : List Nat, Slots K F (wipeA Γ vs) (L2.wipe σ vs)
  | [] => h
  | v :: vs => Slots.clear v (Slots.wipe h vs)
structure Ok (K : PySem.W.Frag) [Tb K] (F : Hp) (Ω : AH) (Γ : List (Option Av)) (σ : L2.St) (H : Hp) : Prop where
  fr : Same F (Fz Ω H)
  st : ∀ p as, Ω p = some as → ∃ xs, H p = some (.lst xs) ∧ VAll K (Fz Ω H) as xs
  sl : Slots K (Fz Ω H) Γ σ
  tb : LamX.Tabs (Tb.T (K := K)) H
  ob : ∀ p u, Ω.o p = some u → ∃ x, H p = some x ∧ ObOk K (Fz Ω H) u x
section
variable {K : PySem.W.Frag} [Tb K] {F F1 : Hp} {Ω : AH} {Γ : List (Option Av)} {σ : L2.St} {H H' : Hp} {p : Addr} {as : List Av} {xs : List V} {a : Av} {v : V} {i : Nat}
theorem Ok.same (k : Ok K F Ω Γ σ H) (s : Same H H') : Ok K F Ω Γ σ H' := by
  have s' := Fz_same (Ω := Ω) s
  refine ⟨k.fr.trans s', fun p as e => ?_, k.sl.same s', k.tb.ext s, fun p u e => ?_⟩
  · obtain ⟨xs, h1, h2⟩ := k.st p as e
    exact ⟨xs, s _ _ h1, h2.same s'⟩
  · obtain ⟨x, h1, h2⟩ := k.ob p u e
    exact ⟨x, s _ _ h1, h2.same s'⟩
/-- all but the tables stays, and these are still told -/
theorem Ok.ext (k : Ok K F Ω Γ σ H) (s : LamX.ExtN H H') (t : LamX.Tabs (Tb.T (K := K)) H') : Ok K F Ω Γ σ H' := by
  have s' := Fz_ext (Ω := Ω) s
  refine ⟨k.fr.trans s', fun p as e => ?_, k.sl.same s', t, fun p u e => ?_⟩
  · obtain ⟨xs, h1, h2⟩ := k.st p as e
    exact ⟨xs, s _ _ h1 (fun q z => by cases z), h2.same s'⟩
  · obtain ⟨x, h1, h2⟩ := k.ob p u e
    exact ⟨x, s _ _ h1 h2.ntbl, h2.same s'⟩
theorem Ok.re (k : Ok K F Ω Γ σ H) : Ok K (Fz Ω H) Ω Γ σ H := ⟨Same.refl _, k.st, k.sl, k.tb, k.ob⟩
theorem Ok.anchor (k : Ok K F1 Ω Γ σ H) (s : Same F F1) : Ok K F Ω Γ σ H := ⟨s.trans k.fr, k.st, k.sl, k.tb, k.ob⟩
theorem Ok.bare (k : Ok K F Ω Γ σ H) : Ok K F Ω [] [] H := ⟨k.fr, k.st, .nil, k.tb, k.ob⟩
theorem Ok.back {Ω' : AH} (k : Ok K F Ω Γ σ H) (j : Ok K (Fz Ω H) Ω' [] [] H') : Ok K F Ω' Γ σ H' := ⟨k.fr.trans j.fr, j.st, k.sl.same j.fr, j.tb, j.ob⟩
theorem Ok.val (k : Ok K F Ω Γ σ H) (e : Γ[i]? = some (some a)) : ∃ v, σ[i]? = some (some v) ∧ VOk K (Fz Ω H) a v := k.sl.get e
theorem Ok.set (k : Ok K F Ω Γ σ H) (h : VOk K (Fz Ω H) a v) (i : Nat) : Ok K F Ω (Γ.set i (some a)) (σ.set i (some v)) H := ⟨k.fr, k.st, k.sl.set i h, k.tb, k.ob⟩
theorem Ok.wipe (k : Ok K F Ω Γ σ H) (vs : List Nat) : Ok K F Ω (wipeA Γ vs) (L2.wipe σ vs) H := ⟨k.fr, k.st, k.sl.wipe vs, k.tb, k.ob⟩
theorem Ok.free (k : Ok K F Ω Γ σ H) (n : H p = none) : Ω p = none := by
  cases e : Ω p with
  | none => rfl
  | some as =>
    obtain ⟨xs, h1, _⟩ := k.st p as e
    rw [n] at h1
    cases h1
theorem Ok.off (k : Ok K F Ω Γ σ H) (n : H p = none) : Ω.Off p := ⟨k.free n, by
  cases e : Ω.o p with
  | none => rfl
  | some u =>
    obtain ⟨x, h1, _⟩ := k.ob p u e
    rw [n] at h1
    cases h1⟩
theorem Ok.noO (k : Ok K F Ω Γ σ H) (n : Ω p = some as) : Ω.o p = none := by
  cases e : Ω.o p with
  | none => rfl
  | some u =>
    obtain ⟨x, h1, h2⟩ := k.ob p u e
    obtain ⟨xs, h3, _⟩ := k.st p _ n
    rw [h1] at h3
    cases h3
    exact h2.nlst.elim
theorem Ok.noL {u : Ob} (k : Ok K F Ω Γ σ H) (n : Ω.o p = some u) : Ω p = none := by
  cases e : Ω p with
  | none => rfl
  | some as =>
    rw [k.noO e] at n
    cases n
theorem Ok.new (k : Ok K F Ω Γ σ H) (n : H p = none) (h : VAll K (Fz Ω H) as xs) : Ok K F (put Ω p as) Γ σ (upd H p (.lst xs)) := by
  have e := Fz_new (Ω := Ω) (o := .lst xs) (as := as) n
  refine ⟨by rw [e]; exact k.fr, fun q bs hq => ?_, by rw [e]; exact k.sl, k.tb.ext fun b o z => by rw [upd_ne (ne_of_none z n)]; exact z, fun q u hq => ?_⟩
  · rw [e]
    by_cases z : q = p
    · subst z
      rw [put_same] at hq
      cases hq
      exact ⟨xs, upd_same, h⟩
    · rw [put_ne z] at hq
      rw [upd_ne z]
      exact k.st q bs hq
  · rw [e]
    obtain ⟨x, h1, h2⟩ := k.ob q u hq
    rw [upd_ne (ne_of_none h1 n)]
    exact ⟨x, h1, h2⟩
theorem Ok.newo {u : Ob} {o : HO} (k : Ok K F Ω Γ σ H) (n : H p = none) (h : ObOk K (Fz Ω H) u o) : Ok K F (puto Ω p u) Γ σ (upd H p o) := by
  have e := Fz_newo (Ω := Ω) (o := o) (u := u) n
  refine ⟨by rw [e]; exact k.fr, fun q bs hq => ?_, by rw [e]; exact k.sl, k.tb.ext fun b o z => by rw [upd_ne (ne_of_none z n)]; exact z, fun q v hq => ?_⟩
  · rw [e]
    obtain ⟨xs, h1, h2⟩ := k.st q bs hq
    rw [upd_ne (ne_of_none h1 n)]
    exact ⟨xs, h1, h2⟩
  · rw [e]
    by_cases z : q = p
    · subst z
      rw [puto_same] at hq
      cases hq
      exact ⟨o, upd_same, h⟩
    · rw [puto_ne z] at hq
      rw [upd_ne z]
      exact k.ob q v hq
theorem Ok.put {bs : List Av} (k : Ok K F Ω Γ σ H) (n : Ω p = some bs) (h : VAll K (Fz Ω H) as xs) : Ok K F (Dat.put Ω p as) Γ σ (upd H p (.lst xs)) := by
  have e := Fz_put (Ω := Ω) (H := H) (o := .lst xs) (as := as) n
  obtain ⟨zs, hz, _⟩ := k.st p bs n
  refine ⟨by rw [e]; exact k.fr, fun q bs hq => ?_, by rw [e]; exact k.sl, tabs_put k.tb hz, fun q u hq => ?_⟩
  · rw [e]
    by_cases z : q = p
    · subst z
      rw [put_same] at hq
      cases hq
      exact ⟨xs, upd_same, h⟩
    · rw [put_ne z] at hq
      rw [upd_ne z]
      exact k.st q bs hq
  · rw [e]
    obtain ⟨x, h1, h2⟩ := k.ob q u hq
    have z : q ≠ p := fun z => by
      have hq' : Ω.o q = some u := hq
      rw [z, k.noO n] at hq'
      cases hq'
    rw [upd_ne z]
    exact ⟨x, h1, h2⟩
theorem tabs_puto {T : List (Addr × Str)} {H : Hp} {p : Addr} {x y : HO} (t : LamX.Tabs T H) (e : H p = some x) (h1 : ∀ q, x ≠ .tbl q) (h2 : ∀ c q, x ≠ LamX.CodeO c q) : LamX.Tabs T (upd H p y) := fun q hq => by
  obtain ⟨ps, g1, g2, g3⟩ := t q hq
  have ne : q.1 ≠ p := fun z => by
    rw [z, e] at g1
    cases g1
    exact h1 _ rfl
  refine ⟨ps, by rw [upd_ne ne]; exact g1, g2, fun pos cv hc => ?_⟩
  obtain ⟨c, e1, e2⟩ := g3 pos cv hc
  have nc : c ≠ p := fun z => by
    rw [z, e] at e2
    cases e2
    exact h2 _ _ rfl
  exact ⟨c, e1, by rw [upd_ne nc]; exact e2⟩
theorem ObOk.ncode {K : PySem.W.Frag} {F : Hp} {u : Ob} {x : HO} (h : ObOk K F u x) : ∀ c q, x ≠ LamX.CodeO c q := by
  intro c q z
  subst z
  unfold LamX.CodeO at h
  cases h
theorem Ok.puto {u v : Ob} {o : HO} (k : Ok K F Ω Γ σ H) (n : Ω.o p = some v) (h : ObOk K (Fz Ω H) u o) : Ok K F (Dat.puto Ω p u) Γ σ (upd H p o) := by
  have e := Fz_puto (Ω := Ω) (H := H) (o := o) (u := u) n
  obtain ⟨x, hx, gx⟩ := k.ob p v n
  refine ⟨by rw [e]; exact k.fr, fun q bs hq => ?_, by rw [e]; exact k.sl, tabs_puto k.tb hx gx.ntbl gx.ncode, fun q w hq => ?_⟩
  · rw [e]
    obtain ⟨xs, h1, h2⟩ := k.st q bs hq
    have z : q ≠ p := fun z => by
      subst z
      rw [k.noO hq] at n
      cases n
    rw [upd_ne z]
    exact ⟨xs, h1, h2⟩
  · rw [e]
    by_cases z : q = p
    · subst z
      rw [puto_same] at hq
      cases hq
      exact ⟨o, upd_same, h⟩
    · rw [puto_ne z] at hq
      rw [upd_ne z]
      exact k.ob q w hq
theorem same_new {o : HO} (n : H p = none) : Same H (upd H p o) := fun b x e => by
  rw [upd_ne (ne_of_none e n)]
  exact e
theorem Fz_at {Ω : AH} {p : Addr} {H : Hp} {o : HO} (n : Ω.Off p) (t : ntb (some o) = some o := by rfl) : Fz Ω (upd H p o) p = some o := by
  rw [Fz_none n, upd_same, t]
theorem Ok.frz {ds : List PyData} (k : Ok K F Ω Γ σ H) (e : Ω p = some (ds.map .dat)) : Ok K F (del Ω p) Γ σ H ∧ Dq K (Fz (del Ω p) H) (.ref p) (.list ds) := by
  have s : Same (Fz Ω H) (Fz (del Ω p) H) := Fz_del
  obtain ⟨xs, h1, h2⟩ := k.st p _ e
  refine ⟨⟨k.fr.trans s, fun q bs hq => ?_, k.sl.same s, k.tb, fun q u hq => ?_⟩, .lst ?_ (h2.same s).dats⟩
  · have hq' : Ω q = some bs := by
      unfold del at hq
      dsimp only at hq
      split at hq
      · cases hq
      · exact hq
    obtain ⟨ys, g1, g2⟩ := k.st q bs hq'
    exact ⟨ys, g1, g2.same s⟩
  · obtain ⟨x, g1, g2⟩ := k.ob q u hq
    exact ⟨x, g1, g2.same s⟩
  · exact Fz_to ⟨if_pos rfl, k.noO e⟩ h1 fun q z => by cases z
end
/-! ### what is wanted behind an expression, a test, arguments -/
def EW (K : PySem.W.Frag) [Tb K] (te : TE) (Γ : List (Option Av)) (Ω : AH) (P : Av → AH → Prop) : Prop :=
  ∀ (F : Hp) (σ : L2.St) (H : Hp) (Q : VK), Ok K F Ω Γ σ H → (∀ a v Ω' H', P a Ω' → Ok K F Ω' Γ σ H' → VOk K (Fz Ω' H') a v → Q v H') → te σ H Q
def TW (K : PySem.W.Frag) [Tb K] (tt : TT) (Γ : List (Option Av)) (Ω : AH) (P : Bool → AH → Prop) : Prop :=
  ∀ (F : Hp) (σ : L2.St) (H : Hp) (Q : Bool → Hp → Prop), Ok K F Ω Γ σ H → (∀ b Ω' H', P b Ω' → Ok K F Ω' Γ σ H' → Q b H') → tt σ H Q
def AW (K : PySem.W.Frag) [Tb K] (ta : TA) (Γ : List (Option Av)) (Ω : AH) (P : List Av → AH → Prop) : Prop :=
  ∀ (F : Hp) (σ : L2.St) (H : Hp) (Q : List V → Hp → Prop), Ok K F Ω Γ σ H → (∀ as vs Ω' H', P as Ω' → Ok K F Ω' Γ σ H' → VAll K (Fz Ω' H') as vs → Q vs H') → ta σ H Q
def OW (K : PySem.W.Frag) [Tb K] (to : TO) (Γ : List (Option Av)) (Ω : AH) (P : Option Int → AH → Prop) : Prop :=
  ∀ (F : Hp) (σ : L2.St) (H : Hp) (Q : Option Int → Hp → Prop), Ok K F Ω Γ σ H → (∀ o Ω' H', P o Ω' → Ok K F Ω' Γ σ H' → Q o H') → to σ H Q
/-- operations on values -/
def R2W (K : PySem.W.Frag) [Tb K] (r : R2) (a b : Av) (Ω : AH) (P : Av → AH → Prop) : Prop :=
  ∀ (F : Hp) (H : Hp) (x y : V) (Q : VK), Ok K F Ω [] [] H → VOk K (Fz Ω H) a x → VOk K (Fz Ω H) b y → (∀ c v Ω' H', P c Ω' → Ok K F Ω' [] [] H' → VOk K (Fz Ω' H') c v → Q v H') → r x y H Q
def R1W (K : PySem.W.Frag) [Tb K] (r : V → Hp → VK → Prop) (a : Av) (Ω : AH) (P : Av → AH → Prop) : Prop :=
  ∀ (F : Hp) (H : Hp) (x : V) (Q : VK), Ok K F Ω [] [] H → VOk K (Fz Ω H) a x → (∀ c v Ω' H', P c Ω' → Ok K F Ω' [] [] H' → VOk K (Fz Ω' H') c v → Q v H') → r x H Q
def RCW (K : PySem.W.Frag) [Tb K] (r : List V → Hp → VK → Prop) (as : List Av) (Ω : AH) (P : Av → AH → Prop) : Prop :=
  ∀ (F : Hp) (H : Hp) (xs : List V) (Q : VK), Ok K F Ω [] [] H → VAll K (Fz Ω H) as xs → (∀ c v Ω' H', P c Ω' → Ok K F Ω' [] [] H' → VOk K (Fz Ω' H') c v → Q v H') → r xs H Q
section
variable {K : PySem.W.Frag} [Tb K] {Γ : List (Option Av)} {Ω : AH} {P P' : Av → AH → Prop} {ta tb tc te : TE} {tt tu : TT} {tl : TA} {r r' : R2}
theorem EW.mono (h : EW K te Γ Ω P) (f : ∀ a Ω', P a Ω' → P' a Ω') : EW K te Γ Ω P' := fun F σ H Q k q => h F σ H Q k fun a v Ω' H' p => q a v Ω' H' (f a Ω' p)
/-- a list just made (or held alone) that is to change no more -/
theorem EW.frz (h : EW K te Γ Ω fun a Ω' => ∃ p ds, a = .ptr p ∧ Ω' p = some (ds.map .dat) ∧ P (.dat (.list ds)) (del Ω' p)) : EW K te Γ Ω P := fun F σ H Q k q =>
  h F σ H Q k fun a v Ω' H' ⟨p, ds, ea, e, hp⟩ k' hv => by
    subst ea
    cases hv
    obtain ⟨k2, d2⟩ := k'.frz e
    exact q _ _ _ _ hp k2 (.dat d2)
theorem e_var {i : Nat} {a : Av} (e : Γ[i]? = some (some a)) (h : P a Ω) : EW K (tVar i) Γ Ω P := fun F σ H Q k q => by
  obtain ⟨v, ev, hv⟩ := k.val e
  exact ⟨v, ev, q a v Ω H h k hv⟩
theorem e_int {i : Int} (h : P (.dat (.int i)) Ω) : EW K (tC (.int i)) Γ Ω P := fun F σ H Q k q => q _ _ Ω H h k (.dat (.int i))
theorem e_str {x : Str} (h : P (.dat (.str x)) Ω) : EW K (tC (.str x)) Γ Ω P := fun F σ H Q k q => q _ _ Ω H h k (.dat (.str x))
theorem e_bl {b : Bool} (h : P (.dat (.bool b)) Ω) : EW K (tC (.bl b)) Γ Ω P := fun F σ H Q k q => q _ _ Ω H h k (.dat (.bl b))
theorem e_non (h : P (.dat .none) Ω) : EW K (tC .non) Γ Ω P := fun F σ H Q k q => q _ _ Ω H h k (.dat .non)
/-- a constant of the written part -/
theorem e_K {v : V} {d : PyData} (hd : ∀ H, Dq K H v d) (h : P (.dat d) Ω) : EW K (tC v) Γ Ω P := fun F σ H Q k q => q _ _ Ω H h k (.dat (hd _))
theorem e_op (h : EW K ta Γ Ω fun a Ω1 => EW K tb Γ Ω1 fun b Ω2 => R2W K r a b Ω2 P) : EW K (tOp r ta tb) Γ Ω P := fun F σ H Q k q =>
  h F σ H _ k fun a v Ω1 H1 h1 k1 v1 => h1 (Fz Ω1 H1) σ H1 _ k1.re fun b w Ω2 H2 h2 k2 v2 =>
    h2 (Fz Ω2 H2) H2 v w Q k2.bare.re (v1.same k2.fr) v2 fun c u Ω3 H3 hp k3 v3 => q c u Ω3 H3 hp ((k2.anchor k1.fr).back k3) v3
theorem e_un {r1 : V → Hp → VK → Prop} (h : EW K ta Γ Ω fun a Ω1 => R1W K r1 a Ω1 P) : EW K (tUn r1 ta) Γ Ω P := fun F σ H Q k q =>
  h F σ H _ k fun a v Ω1 H1 h1 k1 v1 => h1 (Fz Ω1 H1) H1 v Q k1.bare.re v1 fun c u Ω3 H3 hp k3 v3 => q c u Ω3 H3 hp (k1.back k3) v3
theorem e_then {r1 : V → Hp → VK → Prop} (h : EW K ta Γ Ω fun a Ω1 => R1W K r1 a Ω1 P) : EW K (tThen ta r1) Γ Ω P := e_un h
theorem a_nil {P : List Av → AH → Prop} (h : P [] Ω) : AW K tNil Γ Ω P := fun F σ H Q k q => q [] [] Ω H h k .nil
theorem a_cons {P : List Av → AH → Prop} (h : EW K ta Γ Ω fun a Ω1 => AW K tl Γ Ω1 fun as Ω2 => P (a :: as) Ω2) : AW K (tCons ta tl) Γ Ω P := fun F σ H Q k q =>
  h F σ H _ k fun a v Ω1 H1 h1 k1 v1 => h1 (Fz Ω1 H1) σ H1 _ k1.re fun as vs Ω2 H2 h2 k2 v2 => q (a :: as) (v :: vs) Ω2 H2 h2 (k2.anchor k1.fr) (.cons (v1.same k2.fr) v2)
theorem e_cb {rc : List V → Hp → VK → Prop} (h : AW K tl Γ Ω fun as Ω1 => RCW K rc as Ω1 P) : EW K (tCB rc tl) Γ Ω P := fun F σ H Q k q =>
  h F σ H _ k fun as vs Ω1 H1 h1 k1 v1 => h1 (Fz Ω1 H1) H1 vs Q k1.bare.re v1 fun c u Ω3 H3 hp k3 v3 => q c u Ω3 H3 hp (k1.back k3) v3
theorem sz_of {n : Nat} (h : n ≤ 100000) : n ≤ sizeLine := Nat.le_trans h (by decide)
theorem sz_lt {n : Nat} (h : n < 100000) : n < sizeLine := Nat.lt_of_lt_of_le h (by decide)
/-- a tuple of data; a tuple that holds lists that change -/
theorem e_tup (h : AW K tl Γ Ω fun as Ω1 => ∃ ds, as = ds.map .dat ∧ ds.length ≤ 100000 ∧ P (.dat (.tuple ds)) Ω1) : EW K (tTup tl) Γ Ω P := fun F σ H Q k q =>
  h F σ H _ k fun as vs Ω1 H1 ⟨ds, e, hl, hp⟩ k1 v1 => by
    subst e
    have l1 := v1.length
    rw [List.length_map] at l1
    refine ⟨sz_of (by omega), fun p np => ?_⟩
    have s := same_new (o := .tup vs) np
    exact q _ _ Ω1 _ hp (k1.same s) (.dat (.tup (.inl (.inl (Fz_at (k1.off np)))) (v1.dats.same (Fz_same s))))
theorem e_tupA (h : AW K tl Γ Ω fun as Ω1 => as.length ≤ 100000 ∧ P (.tup as) Ω1) : EW K (tTup tl) Γ Ω P := fun F σ H Q k q =>
  h F σ H _ k fun as vs Ω1 H1 ⟨hl, hp⟩ k1 v1 => by
    have l1 := v1.length
    refine ⟨sz_of (by omega), fun p np => ?_⟩
    have s := same_new (o := .tup vs) np
    exact q _ _ Ω1 _ hp (k1.same s) (.tup (Fz_at (k1.off np)) (v1.same (Fz_same s)))
/-- a list of data that is to change no more; a list that may -/
theorem e_lst (h : AW K tl Γ Ω fun as Ω1 => ∃ ds, as = ds.map .dat ∧ ds.length ≤ 100000 ∧ P (.dat (.list ds)) Ω1) : EW K (tLst tl) Γ Ω P := fun F σ H Q k q =>
  h F σ H _ k fun as vs Ω1 H1 ⟨ds, e, hl, hp⟩ k1 v1 => by
    subst e
    have l1 := v1.length
    rw [List.length_map] at l1
    refine ⟨sz_of (by omega), fun p np => ?_⟩
    have s := same_new (o := .lst vs) np
    exact q _ _ Ω1 _ hp (k1.same s) (.dat (.lst (Fz_at (k1.off np)) (v1.dats.same (Fz_same s))))
theorem e_lstP (h : AW K tl Γ Ω fun as Ω1 => as.length ≤ 100000 ∧ ∀ p, Ω1 p = none → P (.ptr p) (put Ω1 p as)) : EW K (tLst tl) Γ Ω P := fun F σ H Q k q =>
  h F σ H _ k fun as vs Ω1 H1 ⟨hl, hp⟩ k1 v1 => by
    have l1 := v1.length
    exact ⟨sz_of (by omega), fun p np => q _ _ _ _ (hp p (k1.free np)) (k1.new np v1) (.ptr p)⟩
/-! tests -/
theorem t_test {P : Bool → AH → Prop} (h : EW K te Γ Ω fun a Ω' => ∃ b, a = .dat (.bool b) ∧ P b Ω') : TW K (tTest te) Γ Ω P := fun F σ H Q k q =>
  h F σ H _ k fun a v Ω' H' ⟨b, e, hp⟩ k' hv => by
    subst e
    cases hv with
    | dat hv =>
      cases hv
      exact ⟨b, rfl, q b Ω' H' hp k'⟩
theorem t_B {P : Bool → AH → Prop} (h : EW K te Γ Ω fun a Ω' => ∃ b, a = .dat (.bool b) ∧ P b Ω') : TW K (tB te) Γ Ω P := t_test h
theorem t_yes {P : Bool → AH → Prop} (h : P true Ω) : TW K tYes Γ Ω P := fun F σ H Q k q => q true Ω H h k
theorem t_not {P : Bool → AH → Prop} (h : TW K tt Γ Ω fun b Ω' => P (!b) Ω') : TW K (tNot tt) Γ Ω P := fun F σ H Q k q => h F σ H _ k fun b Ω' H' hp k' => q _ _ _ hp k'
theorem t_and {P : Bool → AH → Prop} (h : TW K tt Γ Ω fun b Ω1 => (b = true → TW K tu Γ Ω1 P) ∧ (b = false → P false Ω1)) : TW K (tAnd tt tu) Γ Ω P := fun F σ H Q k q =>
  h F σ H _ k fun b Ω1 H1 hp k1 => by
    cases b with
    | true => exact hp.1 rfl F σ H1 Q k1 q
    | false => exact q _ _ _ (hp.2 rfl) k1
theorem t_or {P : Bool → AH → Prop} (h : TW K tt Γ Ω fun b Ω1 => (b = true → P true Ω1) ∧ (b = false → TW K tu Γ Ω1 P)) : TW K (tOr tt tu) Γ Ω P := fun F σ H Q k q =>
  h F σ H _ k fun b Ω1 H1 hp k1 => by
    cases b with
    | true => exact q _ _ _ (hp.1 rfl) k1
    | false => exact hp.2 rfl F σ H1 Q k1 q
theorem e_andV (h : EW K ta Γ Ω fun a Ω1 => ∃ b, a = .dat (.bool b) ∧ (b = true → EW K tb Γ Ω1 P) ∧ (b = false → P (.dat (.bool false)) Ω1)) : EW K (tAndV ta tb) Γ Ω P := fun F σ H Q k q =>
  h F σ H _ k fun a v Ω1 H1 ⟨b, e, h1, h2⟩ k1 v1 => by
    subst e
    cases v1 with
    | dat v1 =>
      cases v1
      refine ⟨b, rfl, ?_⟩
      cases b with
      | true => exact h1 rfl F σ H1 Q k1 q
      | false => exact q _ _ _ _ (h2 rfl) k1 (.dat (.bl false))
theorem e_orV (h : EW K ta Γ Ω fun a Ω1 => ∃ b, a = .dat (.bool b) ∧ (b = true → P (.dat (.bool true)) Ω1) ∧ (b = false → EW K tb Γ Ω1 P)) : EW K (tOrV ta tb) Γ Ω P := fun F σ H Q k q =>
  h F σ H _ k fun a v Ω1 H1 ⟨b, e, h1, h2⟩ k1 v1 => by
    subst e
    cases v1 with
    | dat v1 =>
      cases v1
      refine ⟨b, rfl, ?_⟩
      cases b with
      | true => exact q _ _ _ _ (h1 rfl) k1 (.dat (.bl true))
      | false => exact h2 rfl F σ H1 Q k1 q
theorem e_notV (h : EW K ta Γ Ω fun a Ω1 => ∃ b, a = .dat (.bool b) ∧ P (.dat (.bool (!b))) Ω1) : EW K (tNotV ta) Γ Ω P := fun F σ H Q k q =>
  h F σ H _ k fun a v Ω1 H1 ⟨b, e, h1⟩ k1 v1 => by
    subst e
    cases v1 with
    | dat v1 =>
      cases v1
      exact ⟨b, rfl, q _ _ _ _ h1 k1 (.dat (.bl _))⟩
theorem e_if (h : TW K tt Γ Ω fun b Ω1 => (b = true → EW K ta Γ Ω1 P) ∧ (b = false → EW K tb Γ Ω1 P)) : EW K (tIf tt ta tb) Γ Ω P := fun F σ H Q k q =>
  h F σ H _ k fun b Ω1 H1 hp k1 => by
    cases b with
    | true => exact hp.1 rfl F σ H1 Q k1 q
    | false => exact hp.2 rfl F σ H1 Q k1 q
/-- a chain of two comparisons -/
theorem e_chain (h : EW K ta Γ Ω fun a Ω1 => EW K tb Γ Ω1 fun b Ω2 => R2W K r a b Ω2 fun c Ω3 => ∃ z, c = .dat (.bool z) ∧ (z = true → EW K tc Γ Ω3 fun d Ω4 => R2W K r' b d Ω4 P) ∧ (z = false → P (.dat (.bool false)) Ω3)) : EW K (tChain r r' ta tb tc) Γ Ω P := fun F σ H Q k q =>
  h F σ H _ k fun a v Ω1 H1 h1 k1 v1 => h1 (Fz Ω1 H1) σ H1 _ k1.re fun b w Ω2 H2 h2 k2 v2 =>
    h2 (Fz Ω2 H2) H2 v w _ k2.bare.re (v1.same k2.fr) v2 fun c u Ω3 H3 ⟨z, ec, g1, g2⟩ k3 v3 => by
      subst ec
      have k3' := (k2.anchor k1.fr).back k3
      cases v3 with
      | dat v3 =>
        cases v3
        refine ⟨z, rfl, ?_⟩
        cases z with
        | true =>
          exact g1 rfl (Fz Ω3 H3) σ H3 _ k3'.re fun d x Ω4 H4 h4 k4 v4 =>
            h4 (Fz Ω4 H4) H4 w x Q k4.bare.re ((v2.same k3.fr).same k4.fr) v4 fun e y Ω5 H5 hp k5 v5 => q e y Ω5 H5 hp ((k4.anchor k3'.fr).back k5) v5
        | false => exact q _ _ _ _ (g2 rfl) k3' (.dat (.bl false))
end
end Dat

set_option Elab.async false
set_option linter.all false
set_option maxRecDepth 100000
set_option maxHeartbeats 1000000
namespace Dat
open PySem PySem.Spec PyProof.Rows L2
/-! ### operations on data -/
def canFlat : PyData → Bool
  | .none => true
  | .bool _ => true
  | .int _ => true
  | .str _ => true
  | _ => false
/-- == of two flat data as the rules for single values tell it -/
def scalD : PyData → PyData → Bool
  | .none, .none => true | .none, .int _ => true | .int _, .none => true | .none, .bool _ => true | .bool _, .none => true | .none, .str _ => true | .str _, .none => true
  | .int _, .int _ => true | .bool _, .bool _ => true | .str _, .str _ => true
  | .int _, .str _ => true | .str _, .int _ => true | .bool _, .str _ => true | .str _, .bool _ => true
  | _, _ => false
def eqD : PyData → PyData → Bool
  | .none, .none => true
  | .int i, .int j => decide (i = j)
  | .bool a, .bool b => decide (a = b)
  | .str x, .str y => decide (x = y)
  | _, _ => false
section
variable {K : PySem.W.Frag} [Tb K] {H : Hp}
theorem dq_eq {x y : V} {d e : PyData} (hx : Dq K H x d) (hy : Dq K H y e) (h : scalD d e = true) : scal x y = true ∧ decide (x = y) = eqD d e := by
  cases hx <;> cases hy <;> first | (cases h; done) | (refine ⟨rfl, ?_⟩; simp [eqD])
mutual
theorem Dq.dp : ∀ {v : V} {d : PyData}, Dq K H v d → d.canLay0 = true → Dp K H v d
  | _, _, .non, _ => .non
  | _, _, .bl b, _ => .bl b
  | _, _, .int i, _ => .int i
  | _, _, .str x, _ => .str x
  | _, _, .lst h g, e => .lst (SqL.of h) (DqAll.dp g (by simpa [PyData.canLay0] using e))
  | _, _, .tup h g, e => .tup h (DqAll.dp g (by simpa [PyData.canLay0] using e))
  | _, _, .dct h, e => by simp [PyData.canLay0] at e
theorem DqAll.dp : ∀ {vs : List V} {ds : List PyData}, DqAll K H vs ds → PyData.canLayAll0 ds = true → DpAll K H vs ds
  | _, _, .nil, _ => .nil
  | _, _, .cons h g, e => by
    rw [PyData.canLayAll0, Bool.and_eq_true] at e
    exact .cons (Dq.dp h e.1) (DqAll.dp g e.2)
end
theorem dq_flat {v : V} {d : PyData} (h : Dq K H v d) (f : canFlat d = true) : flatV v = true := by
  cases h <;> first | rfl | cases f
theorem dqAll_flat : ∀ {vs : List V} {ds : List PyData}, DqAll K H vs ds → ds.all canFlat = true → vs.all flatV = true
  | _, _, .nil, _ => rfl
  | _, _, .cons h g, f => by
    rw [List.all_cons, Bool.and_eq_true] at f
    rw [List.all_cons, dq_flat h f.1, dqAll_flat g f.2]
    rfl
theorem dq_eqv {x y : V} {d e : PyData} (hx : Dq K H x d) (hy : Dq K H y e) (fd : canFlat d = true) (fe : canFlat e = true) : eqV x y = PyData.eqv d e := by
  cases hx <;> cases hy <;> first | (cases fd; done) | (cases fe; done) | (simp [eqV, PyData.eqv])
theorem dq_in {x : V} {d : PyData} (hx : Dq K H x d) (fd : canFlat d = true) : ∀ {ys : List V} {es : List PyData}, DqAll K H ys es → es.all canFlat = true → inV x ys = es.any fun e => PyData.eqv e d
  | _, _, .nil, _ => rfl
  | y :: ys, e :: es, .cons h g, f => by
    rw [List.all_cons, Bool.and_eq_true] at f
    have ih := dq_in hx fd g f.2
    show (eqV y x || inV x ys) = (PyData.eqv e d || es.any fun e => PyData.eqv e d)
    rw [ih, dq_eqv h hx f.1 fd]
end
def cutD {α : Type} (xs : List α) (lo hi : Option Int) : List α := (xs.drop (HT.sIx xs.length 0 lo)).take (HT.sIx xs.length xs.length hi - HT.sIx xs.length 0 lo)
section
variable {K : PySem.W.Frag} [Tb K] {F : Hp} {Γ : List (Option Av)} {Ω : AH} {P : Av → AH → Prop} {ta tb te : TE} {i j : Int} {d e : PyData} {ds es : List PyData} {p : Addr} {as : List Av}
theorem DqAll.cut {H : Hp} {vs : List V} (h : DqAll K H vs ds) (lo hi : Option Int) : DqAll K H (cutV vs lo hi) (cutD ds lo hi) := by
  unfold cutV cutD
  rw [h.length]
  exact (h.drop _).take _
theorem atI_dq {H : Hp} {vs : List V} (h : DqAll K H vs ds) (e : atI ds i = some d) : ∃ v, atI vs i = some v ∧ Dq K H v d := by
  unfold atI at e ⊢
  rw [h.length]
  cases q : ixN ds.length i with
  | none => rw [q] at e; cases e
  | some j =>
    rw [q] at e
    exact h.get e
theorem atI_va {H : Hp} {vs : List V} {a : Av} (h : VAll K H as vs) (e : atI as i = some a) : ∃ v, atI vs i = some v ∧ VOk K H a v := by
  unfold atI at e ⊢
  rw [h.length]
  cases q : ixN as.length i with
  | none => rw [q] at e; cases e
  | some j =>
    rw [q] at e
    exact h.get e
theorem r_I0i {f : Int → Int → Int} (h : P (.dat (.int (f i j))) Ω) : R2W K (rI0 fun i j => .int (f i j)) (.dat (.int i)) (.dat (.int j)) Ω P := fun F H x y Q k hx hy q => by
  cases hx with | dat hx => cases hy with | dat hy =>
    cases hx
    cases hy
    exact ⟨_, _, rfl, rfl, q _ _ _ _ h k (.dat (.int _))⟩
theorem r_I0b {f : Int → Int → Bool} (h : P (.dat (.bool (f i j))) Ω) : R2W K (rI0 fun i j => .bl (f i j)) (.dat (.int i)) (.dat (.int j)) Ω P := fun F H x y Q k hx hy q => by
  cases hx with | dat hx => cases hy with | dat hy =>
    cases hx
    cases hy
    exact ⟨_, _, rfl, rfl, q _ _ _ _ h k (.dat (.bl _))⟩
theorem r_Ii {C : Int → Int → Prop} {f : Int → Int → Int} (c : C i j) (h : P (.dat (.int (f i j))) Ω) : R2W K (rI C fun i j => .int (f i j)) (.dat (.int i)) (.dat (.int j)) Ω P := fun F H x y Q k hx hy q => by
  cases hx with | dat hx => cases hy with | dat hy =>
    cases hx
    cases hy
    exact ⟨_, _, rfl, rfl, c, q _ _ _ _ h k (.dat (.int _))⟩
theorem r_neg (h : P (.dat (.int (-i))) Ω) : R1W K (rU fun i => .int (-i)) (.dat (.int i)) Ω P := fun F H x Q k hx q => by
  cases hx with | dat hx =>
    cases hx
    exact ⟨_, rfl, q _ _ _ _ h k (.dat (.int _))⟩
theorem r_eq (s : scalD d e = true) (h : P (.dat (.bool (eqD d e))) Ω) : R2W K rEq (.dat d) (.dat e) Ω P := fun F H x y Q k hx hy q => by
  cases hx with | dat hx => cases hy with | dat hy =>
    obtain ⟨h1, h2⟩ := dq_eq hx hy s
    refine ⟨h1, ?_⟩
    rw [h2]
    exact q _ _ _ _ h k (.dat (.bl _))
theorem r_ne (s : scalD d e = true) (h : P (.dat (.bool (!eqD d e))) Ω) : R2W K rNe (.dat d) (.dat e) Ω P := fun F H x y Q k hx hy q => by
  cases hx with | dat hx => cases hy with | dat hy =>
    obtain ⟨h1, h2⟩ := dq_eq hx hy s
    refine ⟨h1, ?_⟩
    rw [h2]
    exact q _ _ _ _ h k (.dat (.bl _))
theorem shaped_lay (h : SeqAt.shaped d = true) : d.canLay0 = true := SeqAt.canLay_of_shaped h
theorem r_eqD (s1 : SeqAt.shaped d = true) (s2 : SeqAt.shaped e = true) (h : P (.dat (.bool (PyData.eqv d e))) Ω) : R2W K (rEqD K) (.dat d) (.dat e) Ω P := fun F H x y Q k hx hy q => by
  cases hx with | dat hx => cases hy with | dat hy =>
    exact ⟨d, e, (hx.same Fz_le).dp (shaped_lay s1), (hy.same Fz_le).dp (shaped_lay s2), s1, s2, q _ _ _ _ h k (.dat (.bl _))⟩
theorem r_neD (s1 : SeqAt.shaped d = true) (s2 : SeqAt.shaped e = true) (h : P (.dat (.bool (!PyData.eqv d e))) Ω) : R2W K (rNeD K) (.dat d) (.dat e) Ω P := fun F H x y Q k hx hy q => by
  cases hx with | dat hx => cases hy with | dat hy =>
    exact ⟨d, e, (hx.same Fz_le).dp (shaped_lay s1), (hy.same Fz_le).dp (shaped_lay s2), s1, s2, q _ _ _ _ h k (.dat (.bl _))⟩
def rIsNo : R2 := fun x y H Q => y = .non ∧ Q (.bl (decide (x = .non))) H
def rNotNo : R2 := fun x y H Q => y = .non ∧ Q (.bl (!decide (x = .non))) H
theorem op_isNo {X : Cx} : OpR X (compareOp .Is) rIsNo := op_isN
theorem op_notNo {X : Cx} : OpR X (compareOp .IsNot) rNotNo := op_notN
def isNone : PyData → Bool
  | .none => true
  | _ => false
theorem dq_none {H : Hp} {v : V} (h : Dq K H v d) : decide (v = .non) = isNone d := by
  cases h <;> simp [isNone]
theorem r_isN (h : P (.dat (.bool (isNone d))) Ω) : R2W K rIsNo (.dat d) (.dat .none) Ω P := fun F H x y Q k hx hy q => by
  cases hx with | dat hx => cases hy with | dat hy =>
    cases hy
    refine ⟨rfl, ?_⟩
    rw [dq_none hx]
    exact q _ _ _ _ h k (.dat (.bl _))
theorem r_notN (h : P (.dat (.bool (!isNone d))) Ω) : R2W K rNotNo (.dat d) (.dat .none) Ω P := fun F H x y Q k hx hy q => by
  cases hx with | dat hx => cases hy with | dat hy =>
    cases hy
    refine ⟨rfl, ?_⟩
    rw [dq_none hx]
    exact q _ _ _ _ h k (.dat (.bl _))
/-! items -/
theorem r_ixT (a : atI ds i = some d) (h : P (.dat d) Ω) : R2W K (rIxT K) (.dat (.tuple ds)) (.dat (.int i)) Ω P := fun F H x y Q k hx hy q => by
  cases hx with | dat hx => cases hy with | dat hy =>
    cases hy
    cases hx with | tup hs g =>
      obtain ⟨v, e, hv⟩ := atI_dq g a
      exact ⟨_, _, _, v, rfl, rfl, sqT_same Fz_le hs, e, q _ _ _ _ h k (.dat hv)⟩
theorem r_ixL (a : atI ds i = some d) (h : P (.dat d) Ω) : R2W K (rIxL K) (.dat (.list ds)) (.dat (.int i)) Ω P := fun F H x y Q k hx hy q => by
  cases hx with | dat hx => cases hy with | dat hy =>
    cases hy
    cases hx with | lst hs g =>
      obtain ⟨v, e, hv⟩ := atI_dq g a
      exact ⟨_, _, _, v, rfl, rfl, SqL.of (Fz_le _ _ hs), e, q _ _ _ _ h k (.dat hv)⟩
theorem r_ixP {a : Av} (o : Ω p = some as) (a' : atI as i = some a) (h : P a Ω) : R2W K (rIxL K) (.ptr p) (.dat (.int i)) Ω P := fun F H x y Q k hx hy q => by
  cases hx
  cases hy with | dat hy =>
    cases hy
    obtain ⟨xs, h1, h2⟩ := k.st p as o
    obtain ⟨v, e, hv⟩ := atI_va h2 a'
    exact ⟨p, xs, i, v, rfl, rfl, SqL.of h1, e, q _ _ _ _ h k hv⟩
theorem r_ixS {ns : List Int} {n : Int} (a : atI ns i = some n) (h : P (.dat (.int n)) Ω) : R2W K (rIxL K) (.scr ns) (.dat (.int i)) Ω P := fun F H x y Q k hx hy q => by
  cases hx with | scr hs => cases hy with | dat hy =>
    cases hy
    refine ⟨_, _, _, .int n, rfl, rfl, Same.seq Fz_le hs, ?_, q _ _ _ _ h k (.dat (.int n))⟩
    unfold atI at a ⊢
    rw [List.length_map]
    cases e : ixN ns.length i with
    | none => rw [e] at a; cases a
    | some j =>
      rw [e] at a
      show (ns.map V.int)[j]? = _
      rw [List.getElem?_map, show ns[j]? = some n from a]
      rfl
theorem r_inT {neg : Bool} (fd : canFlat d = true) (fe : ds.all canFlat = true) (h : P (.dat (.bool (if neg then !(ds.any fun e => PyData.eqv e d) else ds.any fun e => PyData.eqv e d))) Ω) : R2W K (rIn K neg) (.dat d) (.dat (.tuple ds)) Ω P := fun F H x y Q k hx hy q => by
  cases hx with | dat hx => cases hy with | dat hy => cases hy with | tup hs g =>
    refine ⟨_, _, rfl, .inr (sqT_same Fz_le hs), dq_flat hx fd, dqAll_flat g fe, ?_⟩
    rw [dq_in hx fd g fe]
    exact q _ _ _ _ h k (.dat (.bl _))
theorem r_inL {neg : Bool} (fd : canFlat d = true) (fe : ds.all canFlat = true) (h : P (.dat (.bool (if neg then !(ds.any fun e => PyData.eqv e d) else ds.any fun e => PyData.eqv e d))) Ω) : R2W K (rIn K neg) (.dat d) (.dat (.list ds)) Ω P := fun F H x y Q k hx hy q => by
  cases hx with | dat hx => cases hy with | dat hy => cases hy with | lst hs g =>
    refine ⟨_, _, rfl, .inl (SqL.of (Fz_le _ _ hs)), dq_flat hx fd, dqAll_flat g fe, ?_⟩
    rw [dq_in hx fd g fe]
    exact q _ _ _ _ h k (.dat (.bl _))
/-! sums of tuples and lists, parts -/
theorem tup_new {F : Hp} {H : Hp} {xs : List V} {Γ : List (Option Av)} {σ : L2.St} (k : Ok K F Ω Γ σ H) (np : H p = none) (g : DqAll K (Fz Ω H) xs ds) : Dq K (Fz Ω (upd H p (.tup xs))) (.ref p) (.tuple ds) :=
  .tup (.inl (.inl (Fz_at (k.off np)))) (g.same (Fz_same (same_new np)))
theorem lst_new {F : Hp} {H : Hp} {xs : List V} {Γ : List (Option Av)} {σ : L2.St} (k : Ok K F Ω Γ σ H) (np : H p = none) (g : DqAll K (Fz Ω H) xs ds) : Dq K (Fz Ω (upd H p (.lst xs))) (.ref p) (.list ds) :=
  .lst (Fz_at (k.off np)) (g.same (Fz_same (same_new np)))
theorem r_catT (hl : ds.length + es.length ≤ 100000) (h : P (.dat (.tuple (ds ++ es))) Ω) : R2W K (rCatA K) (.dat (.tuple ds)) (.dat (.tuple es)) Ω P := fun F H x y Q k hx hy q => by
  cases hx with | dat hx => cases hy with | dat hy => cases hx with | tup h1 g1 => cases hy with | tup h2 g2 =>
    have l1 := g1.length
    have l2 := g2.length
    refine ⟨_, _, _, _, rfl, rfl, sqT_same Fz_le h1, sqT_same Fz_le h2, sz_of (by omega), fun e => ?_, fun _ e => ?_, fun _ _ p np => ?_⟩
    · subst e
      cases g1
      exact q _ _ _ _ h k (.dat (.tup h2 g2))
    · subst e
      cases g2
      rw [List.append_nil] at h
      exact q _ _ _ _ h k (.dat (.tup h1 g1))
    · exact q _ _ _ _ h (k.same (same_new np)) (.dat (tup_new k np (g1.app g2)))
theorem r_catL (hl : ds.length + es.length ≤ 100000) (h : P (.dat (.list (ds ++ es))) Ω) : R2W K rCat (.dat (.list ds)) (.dat (.list es)) Ω P := fun F H x y Q k hx hy q => by
  cases hx with | dat hx => cases hy with | dat hy => cases hx with | lst h1 g1 => cases hy with | lst h2 g2 =>
    have l1 := g1.length
    have l2 := g2.length
    exact ⟨_, _, _, _, rfl, rfl, Fz_le _ _ h1, Fz_le _ _ h2, sz_of (by omega), fun p np => q _ _ _ _ h (k.same (same_new np)) (.dat (lst_new k np (g1.app g2)))⟩
/-- the first a list that may change, the sum one that may change too -/
theorem r_catPP {bs : List Av} {p2 : Addr} (o1 : Ω p = some as) (o2 : Ω p2 = some bs) (hl : as.length + bs.length ≤ 100000) (h : ∀ q, Ω q = none → P (.ptr q) (put Ω q (as ++ bs))) : R2W K rCat (.ptr p) (.ptr p2) Ω P := fun F H x y Q k hx hy q => by
  cases hx
  cases hy
  obtain ⟨xs, h1, g1⟩ := k.st p as o1
  obtain ⟨ys, h2, g2⟩ := k.st p2 bs o2
  have l1 := g1.length
  have l2 := g2.length
  exact ⟨_, _, _, _, rfl, rfl, h1, h2, sz_of (by omega), fun z nz => q _ _ _ _ (h z (k.free nz)) (k.new nz (g1.app g2)) (.ptr z)⟩
theorem VAll.ofL {H : Hp} {a : Addr} (h : Dq K H (.ref a) (.list ds)) : ∃ xs, H a = some (.lst xs) ∧ VAll K H (ds.map .dat) xs := by
  cases h with | lst h g => exact ⟨_, h, .ofDats g⟩
theorem r_catPL (o1 : Ω p = some as) (hl : as.length + ds.length ≤ 100000) (h : ∀ q, Ω q = none → P (.ptr q) (put Ω q (as ++ ds.map .dat))) : R2W K rCat (.ptr p) (.dat (.list ds)) Ω P := fun F H x y Q k hx hy q => by
  cases hx
  cases hy with | dat hy => cases hy with | lst h2 g2 =>
    obtain ⟨xs, h1, g1⟩ := k.st p as o1
    have l1 := g1.length
    have l2 := g2.length
    exact ⟨_, _, _, _, rfl, rfl, h1, Fz_le _ _ h2, sz_of (by omega), fun z nz => q _ _ _ _ (h z (k.free nz)) (k.new nz (g1.app (.ofDats g2))) (.ptr z)⟩
/-! slices -/
theorem o_no {P : Option Int → AH → Prop} (h : P none Ω) : OW K tNoPart Γ Ω P := fun F σ H Q k q => q _ _ _ h k
theorem o_some {P : Option Int → AH → Prop} (h : EW K te Γ Ω fun a Ω1 => ∃ i, a = .dat (.int i) ∧ P (some i) Ω1) : OW K (tPart te) Γ Ω P := fun F σ H Q k q =>
  h F σ H _ k fun a v Ω1 H1 ⟨i, e, hp⟩ k1 v1 => by
    subst e
    cases v1 with | dat v1 =>
      cases v1
      exact ⟨i, rfl, q _ _ _ hp k1⟩
theorem e_slT {tl th : TO} (h : EW K te Γ Ω fun a Ω1 => ∃ ds, a = .dat (.tuple ds) ∧ OW K tl Γ Ω1 fun lo Ω2 => OW K th Γ Ω2 fun hi Ω3 => P (.dat (.tuple (cutD ds lo hi))) Ω3) : EW K (tSl (rSlA K) te tl th) Γ Ω P := fun F σ H Q k q =>
  h F σ H _ k fun a v Ω1 H1 ⟨ds, e, h1⟩ k1 v1 => by
    subst e
    cases v1 with | dat v1 =>
      refine h1 (Fz Ω1 H1) σ H1 _ k1.re fun lo Ω2 H2 h2 k2 => h2 (Fz Ω2 H2) σ H2 _ k2.re fun hi Ω3 H3 h3 k3 => ?_
      have k3' := k3.anchor (k1.fr.trans k2.fr)
      have v3 := (v1.same k2.fr).same k3.fr
      cases v3 with | tup hs g =>
        have l := g.length
        refine ⟨_, _, rfl, sqT_same Fz_le hs, fun w => ?_, fun _ p np => ?_⟩
        · have e2 : cutD ds lo hi = ds := by
            unfold cutD
            rw [← l, w.1, w.2]
            rw [List.drop_zero, l]
            exact List.take_of_length_le (by omega)
          have h4 : P (.dat (.tuple (cutD ds lo hi))) Ω3 := h3
          rw [e2] at h4
          exact q _ _ _ _ h4 k3' (.dat (.tup hs g))
        · exact q _ _ _ _ h3 (k3'.same (same_new np)) (.dat (tup_new k3' np (g.cut lo hi)))
theorem e_slL {tl th : TO} (h : EW K te Γ Ω fun a Ω1 => ∃ ds, a = .dat (.list ds) ∧ OW K tl Γ Ω1 fun lo Ω2 => OW K th Γ Ω2 fun hi Ω3 => P (.dat (.list (cutD ds lo hi))) Ω3) : EW K (tSl (rSlL K) te tl th) Γ Ω P := fun F σ H Q k q =>
  h F σ H _ k fun a v Ω1 H1 ⟨ds, e, h1⟩ k1 v1 => by
    subst e
    cases v1 with | dat v1 =>
      refine h1 (Fz Ω1 H1) σ H1 _ k1.re fun lo Ω2 H2 h2 k2 => h2 (Fz Ω2 H2) σ H2 _ k2.re fun hi Ω3 H3 h3 k3 => ?_
      have k3' := k3.anchor (k1.fr.trans k2.fr)
      have v3 := (v1.same k2.fr).same k3.fr
      cases v3 with | lst hs g =>
        exact ⟨_, _, rfl, SqL.of (Fz_le _ _ hs), fun p np => q _ _ _ _ h3 (k3'.same (same_new np)) (.dat (lst_new k3' np (g.cut lo hi)))⟩
/-! ### calls of built-ins -/
def rLenQ (K : PySem.W.Frag) : List V → Hp → VK → Prop := fun xs H Q => ∃ p ys, xs = [.ref p] ∧ (SqL K H p ys ∨ SqT K H p ys) ∧ Q (.int ys.length) H
theorem cl_len {X : Cx} : CallR X (.builtin "len") (rLenQ X.K) := call_len_seq
theorem c_lenT (h : P (.dat (.int ds.length)) Ω) : RCW K (rLenQ K) [.dat (.tuple ds)] Ω P := fun F H xs Q k hx q => by
  cases hx with | cons hx g => cases g; cases hx with | dat hx => cases hx with | tup hs g =>
    refine ⟨_, _, rfl, .inr (sqT_same Fz_le hs), ?_⟩
    rw [g.length]
    exact q _ _ _ _ h k (.dat (.int _))
theorem c_lenL (h : P (.dat (.int ds.length)) Ω) : RCW K (rLenQ K) [.dat (.list ds)] Ω P := fun F H xs Q k hx q => by
  cases hx with | cons hx g => cases g; cases hx with | dat hx => cases hx with | lst hs g =>
    refine ⟨_, _, rfl, .inl (SqL.of (Fz_le _ _ hs)), ?_⟩
    rw [g.length]
    exact q _ _ _ _ h k (.dat (.int _))
theorem c_lenP (o : Ω p = some as) (h : P (.dat (.int as.length)) Ω) : RCW K (rLenQ K) [.ptr p] Ω P := fun F H xs Q k hx q => by
  cases hx with | cons hx g =>
    cases g
    cases hx
    obtain ⟨ys, h1, h2⟩ := k.st p as o
    refine ⟨p, ys, rfl, .inl (SqL.of h1), ?_⟩
    rw [h2.length]
    exact q _ _ _ _ h k (.dat (.int _))
theorem c_lenS {ns : List Int} (h : P (.dat (.int ns.length)) Ω) : RCW K (rLenQ K) [.scr ns] Ω P := fun F H xs Q k hx q => by
  cases hx with | cons hx g => cases g; cases hx with | scr hs =>
    refine ⟨_, _, rfl, .inl (Same.seq Fz_le hs), ?_⟩
    rw [List.length_map]
    exact q _ _ _ _ h k (.dat (.int _))
def rAbsQ : List V → Hp → VK → Prop := fun xs H Q => ∃ i, xs = [.int i] ∧ Q (.int (if i < 0 then -i else i)) H
theorem cl_abs {X : Cx} : CallR X (.builtin "abs") rAbsQ := call_abs
theorem c_abs (h : P (.dat (.int (if i < 0 then -i else i))) Ω) : RCW K rAbsQ [.dat (.int i)] Ω P := fun F H xs Q k hx q => by
  cases hx with | cons hx g => cases g; cases hx with | dat hx =>
    cases hx
    exact ⟨i, rfl, q _ _ _ _ h k (.dat (.int _))⟩
def rMax2Q : List V → Hp → VK → Prop := fun xs H Q => ∃ i j, xs = [.int i, .int j] ∧ Q (.int (if j > i then j else i)) H
def rMin2Q : List V → Hp → VK → Prop := fun xs H Q => ∃ i j, xs = [.int i, .int j] ∧ Q (.int (if j < i then j else i)) H
theorem cl_max2 {X : Cx} (hc : X.calm = true) : CallR X (.builtin "max") rMax2Q := call_max2 hc
theorem cl_min2 {X : Cx} (hc : X.calm = true) : CallR X (.builtin "min") rMin2Q := call_min2 hc
theorem c_max2 (h : P (.dat (.int (if j > i then j else i))) Ω) : RCW K rMax2Q [.dat (.int i), .dat (.int j)] Ω P := fun F H xs Q k hx q => by
  cases hx with | cons hx g => cases g with | cons hy g => cases g; cases hx with | dat hx => cases hy with | dat hy =>
    cases hx
    cases hy
    exact ⟨i, j, rfl, q _ _ _ _ h k (.dat (.int _))⟩
theorem c_min2 (h : P (.dat (.int (if j < i then j else i))) Ω) : RCW K rMin2Q [.dat (.int i), .dat (.int j)] Ω P := fun F H xs Q k hx q => by
  cases hx with | cons hx g => cases g with | cons hy g => cases g; cases hx with | dat hx => cases hy with | dat hy =>
    cases hx
    cases hy
    exact ⟨i, j, rfl, q _ _ _ _ h k (.dat (.int _))⟩
def rIntQ : List V → Hp → VK → Prop := fun xs H Q => (∃ i, xs = [.int i] ∧ Q (.int i) H) ∨ ∃ k, xs = [.bl k] ∧ Q (.int (if k then 1 else 0)) H
theorem cl_int {X : Cx} : CallR X (.type "int") rIntQ := call_int1
theorem c_intI (h : P (.dat (.int i)) Ω) : RCW K rIntQ [.dat (.int i)] Ω P := fun F H xs Q k hx q => by
  cases hx with | cons hx g => cases g; cases hx with | dat hx =>
    cases hx
    exact .inl ⟨i, rfl, q _ _ _ _ h k (.dat (.int _))⟩
theorem c_intB {b : Bool} (h : P (.dat (.int (if b then 1 else 0))) Ω) : RCW K rIntQ [.dat (.bool b)] Ω P := fun F H xs Q k hx q => by
  cases hx with | cons hx g => cases g; cases hx with | dat hx =>
    cases hx
    exact .inr ⟨b, rfl, q _ _ _ _ h k (.dat (.int _))⟩
theorem dq_intsL {H : Hp} {v : V} {ns : List Int} (h : Dq K H v (.list (ns.map PyData.int))) : ∃ a, v = .ref a ∧ H a = some (.lst (ns.map V.int)) := by
  cases h with | lst h g =>
    rw [g.ints] at h
    exact ⟨_, rfl, h⟩
theorem c_sum {ns : List Int} (h : P (.dat (.int ns.sum)) Ω) : RCW K (rSum K) [.dat (.list (ns.map PyData.int))] Ω P := fun F H xs Q k hx q => by
  cases hx with | cons hx g => cases g; cases hx with | dat hx =>
    obtain ⟨a, rfl, ha⟩ := dq_intsL hx
    exact ⟨a, ns, rfl, SqL.of (Fz_le _ _ ha), q _ _ _ _ h k (.dat (.int _))⟩
theorem c_max {ns : List Int} (ne : 0 < ns.length) (h : ∀ m, m ∈ ns → (∀ y, y ∈ ns → y ≤ m) → P (.dat (.int m)) Ω) : RCW K (rMax K) [.dat (.list (ns.map PyData.int))] Ω P := fun F H xs Q k hx q => by
  cases hx with | cons hx g => cases g; cases hx with | dat hx =>
    obtain ⟨a, rfl, ha⟩ := dq_intsL hx
    exact ⟨a, ns, rfl, SqL.of (Fz_le _ _ ha), ne, fun m h1 h2 => q _ _ _ _ (h m h1 h2) k (.dat (.int _))⟩
theorem c_min {ns : List Int} (ne : 0 < ns.length) (h : ∀ m, m ∈ ns → (∀ y, y ∈ ns → m ≤ y) → P (.dat (.int m)) Ω) : RCW K (rMin K) [.dat (.list (ns.map PyData.int))] Ω P := fun F H xs Q k hx q => by
  cases hx with | cons hx g => cases g; cases hx with | dat hx =>
    obtain ⟨a, rfl, ha⟩ := dq_intsL hx
    exact ⟨a, ns, rfl, SqL.of (Fz_le _ _ ha), ne, fun m h1 h2 => q _ _ _ _ (h m h1 h2) k (.dat (.int _))⟩
theorem c_sorted {ns : List Int} (l : ns.length < 64) (h : ∀ ns' : List Int, ns'.Perm ns → ns'.Pairwise (· ≤ ·) → P (.dat (.list (ns'.map PyData.int))) Ω) : RCW K (rSorted K) [.dat (.list (ns.map PyData.int))] Ω P := fun F H xs Q k hx q => by
  cases hx with | cons hx g => cases g; cases hx with | dat hx =>
    obtain ⟨a, rfl, ha⟩ := dq_intsL hx
    exact ⟨a, ns, rfl, SqL.of (Fz_le _ _ ha), l, fun ns' p h1 h2 np => q _ _ _ _ (h ns' h1 h2) (k.same (same_new np)) (.dat (lst_new k np .ofInts))⟩
theorem dq_bools : ∀ {H : Hp} {bs : List Bool} {vs : List V}, DqAll K H vs (bs.map PyData.bool) → vs = bs.map V.bl
  | _, [], _, h => by cases h; rfl
  | _, b :: r, _, h => by
    rw [List.map_cons] at h
    cases h with | cons h g =>
      cases h
      rw [dq_bools g, List.map_cons]
theorem c_all {bs : List Bool} (h : P (.dat (.bool (bs.all id))) Ω) : RCW K (rAll K) [.dat (.list (bs.map PyData.bool))] Ω P := fun F H xs Q k hx q => by
  cases hx with | cons hx g => cases g; cases hx with | dat hx => cases hx with | lst hs g =>
    rw [dq_bools g] at hs
    exact ⟨_, bs, rfl, SqL.of (Fz_le _ _ hs), q _ _ _ _ h k (.dat (.bl _))⟩
theorem c_any {bs : List Bool} (h : P (.dat (.bool (bs.any id))) Ω) : RCW K (rAny K) [.dat (.list (bs.map PyData.bool))] Ω P := fun F H xs Q k hx q => by
  cases hx with | cons hx g => cases g; cases hx with | dat hx => cases hx with | lst hs g =>
    rw [dq_bools g] at hs
    exact ⟨_, bs, rfl, SqL.of (Fz_le _ _ hs), q _ _ _ _ h k (.dat (.bl _))⟩
/-! isinstance -/
def kindD : PyData → String
  | .none => "NoneType"
  | .bool _ => "bool"
  | .int _ => "int"
  | .str _ => "str"
  | .list _ => "list"
  | .tuple _ => "tuple"
  | .dict _ => "dict"
theorem dq_ty {H : Hp} {v : V} (h : Dq K H v d) : TyX K H v (.type (kindD d)) := by
  cases h with
  | non => exact .base .non
  | bl b => exact .base (.bl b)
  | int i => exact .base (.int i)
  | str x => exact .base (.str x)
  | lst h _ => exact .base (.lst h)
  | tup h _ =>
    rcases h with (h | ⟨o, h⟩) | ⟨o, its, n, h, hc, _⟩
    · exact .base (.tup h)
    · exact .fTuple h
    · exact .kTuple h hc
  | dct h => exact .base (.dK h)
def isIntD : PyData → Bool
  | .int _ => true
  | .bool _ => true
  | _ => false
def isBoolD : PyData → Bool
  | .bool _ => true
  | _ => false
def isStrD : PyData → Bool
  | .str _ => true
  | _ => false
def isTupD : PyData → Bool
  | .tuple _ => true
  | _ => false
def isLstD : PyData → Bool
  | .list _ => true
  | _ => false
theorem kit_int : kitB (kindD d) "int" = some (isIntD d) := by cases d <;> (simp only [kindD, isIntD]; decide +kernel)
theorem kit_bool : kitB (kindD d) "bool" = some (isBoolD d) := by cases d <;> (simp only [kindD, isBoolD]; decide +kernel)
theorem kit_str : kitB (kindD d) "str" = some (isStrD d) := by cases d <;> (simp only [kindD, isStrD]; decide +kernel)
theorem kit_tuple : kitB (kindD d) "tuple" = some (isTupD d) := by cases d <;> (simp only [kindD, isTupD]; decide +kernel)
theorem kit_list : kitB (kindD d) "list" = some (isLstD d) := by cases d <;> (simp only [kindD, isLstD]; decide +kernel)
theorem e_ty {T : String} (h : P (.ty T) Ω) : EW K (tC (.ty T)) Γ Ω P := fun F σ H Q k q => q _ _ Ω H h k (.ty T)
theorem c_isi {T : String} {b : Bool} (e : kitB (kindD d) T = some b) (h : P (.dat (.bool b)) Ω) : RCW K (rIsi K) [.dat d, .ty T] Ω P := fun F H xs Q k hx q => by
  cases hx with | cons hx g => cases g with | cons hy g => cases g; cases hx with | dat hx => cases hy with | ty T =>
    exact ⟨_, _, _, _, b, rfl, .ty T, dq_ty (hx.same Fz_le), kit_ty e, q _ _ _ _ h k (.dat (.bl _))⟩
theorem c_isiP {T : String} {b : Bool} (o : Ω p = some as) (e : kitB "list" T = some b) (h : P (.dat (.bool b)) Ω) : RCW K (rIsi K) [.ptr p, .ty T] Ω P := fun F H xs Q k hx q => by
  cases hx with | cons hx g => cases g with | cons hy g =>
    cases g
    cases hx
    cases hy with | ty T =>
      obtain ⟨ys, h1, h2⟩ := k.st p as o
      exact ⟨_, _, _, _, b, rfl, .ty T, .base (.lst h1), kit_ty e, q _ _ _ _ h k (.dat (.bl _))⟩
/-! tuple(x), list(x) -/
theorem r_tupL (h : P (.dat (.tuple ds)) Ω) : R1W K (kTup K) (.dat (.list ds)) Ω P := fun F H x Q k hx q => by
  cases hx with | dat hx => cases hx with | lst hs g =>
    exact .inl ⟨_, _, rfl, SqL.of (Fz_le _ _ hs), fun p np => q _ _ _ _ h (k.same (same_new np)) (.dat (tup_new k np g))⟩
theorem r_tupT (h : P (.dat (.tuple ds)) Ω) : R1W K (kTup K) (.dat (.tuple ds)) Ω P := fun F H x Q k hx q => by
  cases hx with | dat hx => cases hx with | tup hs g =>
    exact .inr ⟨_, _, rfl, sqT_same Fz_le hs, q _ _ _ _ h k (.dat (.tup hs g))⟩
theorem r_tupP (o : Ω p = some (ds.map .dat)) (h : P (.dat (.tuple ds)) (del Ω p)) : R1W K (kTup K) (.ptr p) Ω P := fun F H x Q k hx q => by
  cases hx
  obtain ⟨k2, d2⟩ := k.frz o
  cases d2 with | lst hs g =>
    exact .inl ⟨_, _, rfl, SqL.of (Fz_le _ _ hs), fun u nu => q _ _ _ _ h (k2.same (same_new nu)) (.dat (tup_new k2 nu g))⟩
def rListQ (K : PySem.W.Frag) : List V → Hp → VK → Prop := fun xs H Q => ∃ p ys, xs = [.ref p] ∧ (SqL K H p ys ∨ SqT K H p ys) ∧ ∀ l, H l = none → Q (.ref l) (upd H l (.lst ys))
theorem cl_list {X : Cx} : CallR X (.type "list") (rListQ X.K) := call_list_of
theorem c_listT (h : P (.dat (.list ds)) Ω) : RCW K (rListQ K) [.dat (.tuple ds)] Ω P := fun F H xs Q k hx q => by
  cases hx with | cons hx g => cases g; cases hx with | dat hx => cases hx with | tup hs g =>
    exact ⟨_, _, rfl, .inr (sqT_same Fz_le hs), fun l nl => q _ _ _ _ h (k.same (same_new nl)) (.dat (lst_new k nl g))⟩
theorem c_listL (h : P (.dat (.list ds)) Ω) : RCW K (rListQ K) [.dat (.list ds)] Ω P := fun F H xs Q k hx q => by
  cases hx with | cons hx g => cases g; cases hx with | dat hx => cases hx with | lst hs g =>
    exact ⟨_, _, rfl, .inl (SqL.of (Fz_le _ _ hs)), fun l nl => q _ _ _ _ h (k.same (same_new nl)) (.dat (lst_new k nl g))⟩
theorem c_listTP (h : ∀ l, Ω l = none → P (.ptr l) (put Ω l (ds.map .dat))) : RCW K (rListQ K) [.dat (.tuple ds)] Ω P := fun F H xs Q k hx q => by
  cases hx with | cons hx g => cases g; cases hx with | dat hx => cases hx with | tup hs g =>
    exact ⟨_, _, rfl, .inr (sqT_same Fz_le hs), fun l nl => q _ _ _ _ (h l (k.free nl)) (k.new nl (.ofDats g)) (.ptr l)⟩
theorem c_listLP (h : ∀ l, Ω l = none → P (.ptr l) (put Ω l (ds.map .dat))) : RCW K (rListQ K) [.dat (.list ds)] Ω P := fun F H xs Q k hx q => by
  cases hx with | cons hx g => cases g; cases hx with | dat hx => cases hx with | lst hs g =>
    exact ⟨_, _, rfl, .inl (SqL.of (Fz_le _ _ hs)), fun l nl => q _ _ _ _ (h l (k.free nl)) (k.new nl (.ofDats g)) (.ptr l)⟩
end
end Dat

set_option Elab.async false
set_option linter.all false
set_option maxRecDepth 100000
set_option maxHeartbeats 1000000
namespace Dat
open PySem PySem.Spec PyProof.Rows L2
/-! ### targets -/
def GW (K : PySem.W.Frag) [Tb K] (g : TG) (a : Av) (Γ : List (Option Av)) (Ω : AH) (P : List (Option Av) → AH → Prop) : Prop :=
  ∀ (F : Hp) (σ : L2.St) (H : Hp) (v : V) (Q : L2.St → Hp → Prop), Ok K F Ω Γ σ H → VOk K (Fz Ω H) a v → (∀ Γ' σ' Ω' H', P Γ' Ω' → Ok K F Ω' Γ' σ' H' → Q σ' H') → g v σ H Q
def GsW (K : PySem.W.Frag) [Tb K] (g : TGs) (as : List Av) (Γ : List (Option Av)) (Ω : AH) (P : List (Option Av) → AH → Prop) : Prop :=
  ∀ (F : Hp) (σ : L2.St) (H : Hp) (vs : List V) (Q : L2.St → Hp → Prop), Ok K F Ω Γ σ H → VAll K (Fz Ω H) as vs → (∀ Γ' σ' Ω' H', P Γ' Ω' → Ok K F Ω' Γ' σ' H' → Q σ' H') → g vs σ H Q
structure EndA where
  nx : List (Option Av) → AH → Prop
  rt : Av → AH → Prop
  bk : List (Option Av) → AH → Prop := fun _ _ => False
  ct : List (Option Av) → AH → Prop := fun _ _ => False
structure EndOk (K : PySem.W.Frag) [Tb K] (F : Hp) (E : EndA) (D : Ends) : Prop where
  nx : ∀ Γ σ Ω H, E.nx Γ Ω → Ok K F Ω Γ σ H → D.nx σ H
  rt : ∀ a v Ω H, E.rt a Ω → Ok K F Ω [] [] H → VOk K (Fz Ω H) a v → D.rt v H
  bk : ∀ Γ σ Ω H, E.bk Γ Ω → Ok K F Ω Γ σ H → D.bk σ H
  ct : ∀ Γ σ Ω H, E.ct Γ Ω → Ok K F Ω Γ σ H → D.ct σ H
def SW (K : PySem.W.Frag) [Tb K] (ts : TS) (Γ : List (Option Av)) (Ω : AH) (E : EndA) : Prop :=
  ∀ (F : Hp) (σ : L2.St) (H : Hp) (D : Ends), Ok K F Ω Γ σ H → EndOk K F E D → ts D σ H
theorem EndOk.anchor {K : PySem.W.Frag} [Tb K] {F F1 : Hp} {E : EndA} {D : Ends} (e : EndOk K F E D) (s : Same F F1) : EndOk K F1 E D :=
  ⟨fun Γ σ Ω H h k => e.nx Γ σ Ω H h (k.anchor s), fun a v Ω H h k => e.rt a v Ω H h (k.anchor s), fun Γ σ Ω H h k => e.bk Γ σ Ω H h (k.anchor s), fun Γ σ Ω H h k => e.ct Γ σ Ω H h (k.anchor s)⟩
section
variable {K : PySem.W.Frag} [Tb K] {Γ : List (Option Av)} {Ω : AH} {E : EndA} {te ta tb : TE} {t u w : TS} {tt : TT} {g : TG} {gs : TGs} {tl : TA} {i j : Nat} {a : Av} {as : List Av} {ds : List PyData}
theorem g_name {P : List (Option Av) → AH → Prop} (h : P (Γ.set i (some a)) Ω) : GW K (gName i) a Γ Ω P := fun F σ H v Q k hv q => q _ _ _ _ h (k.set hv i)
theorem g_tup {n : Nat} {P : List (Option Av) → AH → Prop} (l : ds.length = n) (h : GsW K gs (ds.map .dat) Γ Ω P) : GW K (gTup K n gs) (.dat (.tuple ds)) Γ Ω P := fun F σ H v Q k hv q => by
  cases hv with | dat hv => cases hv with | tup hs g =>
    exact ⟨_, _, rfl, sqT_same Fz_le hs, by rw [g.length, l], h F σ H _ Q k (.ofDats g) q⟩
theorem g_tupA {n : Nat} {P : List (Option Av) → AH → Prop} (l : as.length = n) (h : GsW K gs as Γ Ω P) : GW K (gTup K n gs) (.tup as) Γ Ω P := fun F σ H v Q k hv q => by
  cases hv with | tup hs g =>
    exact ⟨_, _, rfl, SqT.of (Fz_le _ _ hs), by rw [g.length, l], h F σ H _ Q k g q⟩
theorem gs_nil {P : List (Option Av) → AH → Prop} (h : P Γ Ω) : GsW K gNil [] Γ Ω P := fun F σ H vs Q k hv q => by
  cases hv
  exact ⟨rfl, q _ _ _ _ h k⟩
theorem gs_cons {P : List (Option Av) → AH → Prop} (h : GW K g a Γ Ω fun Γ1 Ω1 => Ω1 = Ω ∧ GsW K gs as Γ1 Ω1 P) : GsW K (gCons g gs) (a :: as) Γ Ω P := fun F σ H vs Q k hv q => by
  cases hv with | cons hv hr =>
    exact ⟨_, _, rfl, h (Fz Ω H) σ H _ _ k.re hv fun Γ1 σ1 Ω1 H1 ⟨e, h1⟩ k1 => h1 F σ1 H1 _ Q (k1.anchor k.fr) (hr.same k1.fr) q⟩
/-! ### statements -/
theorem s_next (h : E.nx Γ Ω) : SW K tNext Γ Ω E := fun F σ H D k e => e.nx _ _ _ _ h k
theorem s_seq (h : SW K t Γ Ω { E with nx := fun Γ' Ω' => SW K u Γ' Ω' E }) : SW K (tSeq t u) Γ Ω E := fun F σ H D k e =>
  h F σ H { D with nx := u D } k ⟨fun Γ' σ' Ω' H' h' k' => h' F σ' H' D k' e, e.rt, e.bk, e.ct⟩
theorem s_cut (M : List (Option Av) → AH → Prop) (h : SW K t Γ Ω { E with nx := M }) (h2 : ∀ Γ' Ω', M Γ' Ω' → SW K u Γ' Ω' E) : SW K (C8.tCut t u) Γ Ω E := fun F σ H D k e =>
  ⟨fun σ' H' => ∃ Γ' Ω', M Γ' Ω' ∧ Ok K F Ω' Γ' σ' H', h F σ H _ k ⟨fun Γ' σ' Ω' H' hm k' => ⟨Γ', Ω', hm, k'⟩, e.rt, e.bk, e.ct⟩, fun σ' H' ⟨Γ', Ω', hm, k'⟩ => h2 Γ' Ω' hm F σ' H' D k' e⟩
theorem s_seqM (M : List (Option Av) → AH → Prop) (h : SW K t Γ Ω { E with nx := M }) (h2 : ∀ Γ' Ω', M Γ' Ω' → SW K u Γ' Ω' E) : SW K (tSeq t u) Γ Ω E := fun F σ H D k e =>
  h F σ H { D with nx := u D } k ⟨fun Γ' σ' Ω' H' hm k' => h2 Γ' Ω' hm F σ' H' D k' e, e.rt, e.bk, e.ct⟩
theorem SW.mono {E' : EndA} (h : SW K t Γ Ω E) (n : ∀ Γ' Ω', E.nx Γ' Ω' → E'.nx Γ' Ω') (r : ∀ a Ω', E.rt a Ω' → E'.rt a Ω') (b : ∀ Γ' Ω', E.bk Γ' Ω' → E'.bk Γ' Ω') (c : ∀ Γ' Ω', E.ct Γ' Ω' → E'.ct Γ' Ω') : SW K t Γ Ω E' := fun F σ H D k e =>
  h F σ H D k ⟨fun Γ' σ' Ω' H' z => e.nx _ _ _ _ (n _ _ z), fun a v Ω' H' z => e.rt _ _ _ _ (r _ _ z), fun Γ' σ' Ω' H' z => e.bk _ _ _ _ (b _ _ z), fun Γ' σ' Ω' H' z => e.ct _ _ _ _ (c _ _ z)⟩
theorem s_asgG (h : EW K te Γ Ω fun a Ω1 => GW K g a Γ Ω1 E.nx) : SW K (tAsg te g) Γ Ω E := fun F σ H D k e =>
  h F σ H _ k fun a v Ω1 H1 h1 k1 v1 => h1 F σ H1 v D.nx k1 v1 fun Γ' σ' Ω' H' h' k' => e.nx _ _ _ _ h' k'
theorem s_asg (h : EW K te Γ Ω fun a Ω1 => E.nx (Γ.set i (some a)) Ω1) : SW K (tAsg te (gName i)) Γ Ω E := fun F σ H D k e =>
  h F σ H _ k fun a v Ω1 H1 h1 k1 v1 => e.nx _ _ _ _ h1 (k1.set v1 i)
theorem s_par (h : AW K tl Γ Ω fun as Ω1 => ∃ a b, as = [a, b] ∧ E.nx ((Γ.set i (some a)).set j (some b)) Ω1) : SW K (tPar i j tl) Γ Ω E := fun F σ H D k e =>
  h F σ H _ k fun as vs Ω1 H1 ⟨a, b, ea, h1⟩ k1 v1 => by
    subst ea
    cases v1 with | cons va v1 => cases v1 with | cons vb v1 =>
      cases v1
      exact ⟨_, _, rfl, e.nx _ _ _ _ h1 ((k1.set va i).set vb j)⟩
theorem s_aug {f : Int → Int → Int} {x : Int} (hx : Γ[i]? = some (some (.dat (.int x)))) (h : EW K te Γ Ω fun a Ω1 => ∃ y, a = .dat (.int y) ∧ E.nx (Γ.set i (some (.dat (.int (f x y))))) Ω1) : SW K (tAug i te (ipI f)) Γ Ω E := fun F σ H D k e => by
  obtain ⟨v, ev, hv⟩ := k.val hx
  cases hv with | dat hv =>
    cases hv
    refine ⟨_, ev, h F σ H _ k fun a v Ω1 H1 ⟨y, ea, h1⟩ k1 v1 => ?_⟩
    subst ea
    cases v1 with | dat v1 =>
      cases v1
      exact ⟨x, y, rfl, rfl, e.nx _ _ _ _ h1 (k1.set (.dat (.int _)) i)⟩
theorem s_drop (h : EW K te Γ Ω fun _ Ω1 => E.nx Γ Ω1) : SW K (tDrop te) Γ Ω E := fun F σ H D k e => h F σ H _ k fun a v Ω1 H1 h1 k1 v1 => e.nx _ _ _ _ h1 k1
theorem s_ret (h : EW K te Γ Ω E.rt) : SW K (tRet te) Γ Ω E := fun F σ H D k e => h F σ H _ k fun a v Ω1 H1 h1 k1 v1 => e.rt _ _ _ _ h1 k1.bare v1
theorem s_retN (h : E.rt (.dat .none) Ω) : SW K tRetN Γ Ω E := fun F σ H D k e => e.rt _ _ _ _ h k.bare (.dat .non)
theorem s_brk (h : E.bk Γ Ω) : SW K tBreak Γ Ω E := fun F σ H D k e => e.bk _ _ _ _ h k
theorem s_cont (h : E.ct Γ Ω) : SW K tCont Γ Ω E := fun F σ H D k e => e.ct _ _ _ _ h k
theorem s_if (h : TW K tt Γ Ω fun b Ω1 => (b = true → SW K t Γ Ω1 E) ∧ (b = false → SW K u Γ Ω1 E)) : SW K (tIfS tt t u) Γ Ω E := fun F σ H D k e =>
  h F σ H _ k fun b Ω1 H1 hp k1 => by
    cases b with
    | true => exact hp.1 rfl F σ H1 D k1 e
    | false => exact hp.2 rfl F σ H1 D k1 e
/-- xs.append(e) -/
theorem e_app {P : Av → AH → Prop} (h : EW K ta Γ Ω fun a Ω1 => ∃ p, a = .ptr p ∧ (∃ bs, Ω1 p = some bs) ∧ AW K tl Γ Ω1 fun cs Ω2 => ∃ b as, cs = [b] ∧ Ω2 p = some as ∧ as.length < 100000 ∧ P (.dat .none) (put Ω2 p (as ++ [b]))) : EW K (tBM K "list" rAppend ta tl) Γ Ω P := fun F σ H Q k q =>
  h F σ H _ k fun a v Ω1 H1 ⟨p, ea, ⟨bs, eb⟩, h1⟩ k1 v1 => by
    subst ea
    cases v1
    obtain ⟨zs, hz, _⟩ := k1.st p bs eb
    refine ⟨.inl ⟨rfl, _, SqL.of hz⟩, h1 F σ H1 _ k1 fun cs vs Ω2 H2 ⟨b, as, ec, e2, l, hp⟩ k2 v2 => ?_⟩
    subst ec
    cases v2 with | cons vb v2 =>
      cases v2
      obtain ⟨xs, hx, g⟩ := k2.st p as e2
      have lx := g.length
      exact ⟨p, xs, _, rfl, rfl, hx, sz_lt (by omega), q _ _ _ _ hp (k2.put e2 (g.app (.cons vb .nil))) (.dat .non)⟩
/-- xs[i] = e -/
theorem s_setL (h : EW K te Γ Ω fun a Ω1 => EW K ta Γ Ω1 fun o Ω2 => ∃ p, o = .ptr p ∧ EW K tb Γ Ω2 fun c Ω3 => ∃ (z : Int) (as : List Av) (j : Nat), c = .dat (.int z) ∧ Ω3 p = some as ∧ ixN as.length z = some j ∧ E.nx Γ (put Ω3 p (as.set j a))) : SW K (tAsg te (gSub ta tb rSetL)) Γ Ω E := fun F σ H D k e =>
  h F σ H _ k fun a v Ω1 H1 h1 k1 v1 => h1 (Fz Ω1 H1) σ H1 _ k1.re fun o x Ω2 H2 ⟨p, eo, h2⟩ k2 v2 => by
    subst eo
    cases v2
    refine h2 (Fz Ω2 H2) σ H2 _ k2.re fun c y Ω3 H3 ⟨z, as, jj, ec, ep, ej, hn⟩ k3 v3 => ?_
    subst ec
    cases v3 with | dat v3 =>
      cases v3
      obtain ⟨xs, hx, g⟩ := k3.st p as ep
      refine ⟨p, xs, z, jj, rfl, rfl, hx, ?_, e.nx _ _ _ _ hn ((k3.anchor (k1.fr.trans k2.fr)).put ep (g.set jj ((v1.same k2.fr).same k3.fr)))⟩
      rw [g.length]
      exact ej
/-! ### walks -/
structure WalkA (K : PySem.W.Frag) [Tb K] (F : Hp) (J : It) (as : List Av) : Prop where
  go : ∀ (Ω : AH) (H : Hp), Ok K F Ω [] [] H → ∀ i a, as[i]? = some a → J.go i H ∧ ∀ x H', J.yld i H x H' → Same H H' ∧ VOk K (Fz Ω H') a x
  stop : ∀ (Ω : AH) (H : Hp), Ok K F Ω [] [] H → J.stop as.length H
def IW (K : PySem.W.Frag) [Tb K] (wi : TI) (Γ : List (Option Av)) (Ω : AH) (P : List Av → AH → Prop) : Prop :=
  ∀ (F : Hp) (σ : L2.St) (H : Hp) (R : It → Hp → Prop), Ok K F Ω Γ σ H → (∀ as Ω' H' J, P as Ω' → Ok K F Ω' Γ σ H' → WalkA K (Fz Ω' H') J as → R J H') → wi σ H R
theorem walk_t {F : Hp} {a : Addr} {xs : List V} (h : SqT K F a xs) (g : DqAll K F xs ds) : WalkA K F (Itt K a) (ds.map .dat) := by
  constructor
  · intro Ω H k i b e
    rw [List.getElem?_map] at e
    cases ed : ds[i]? with
    | none => rw [ed] at e; cases e
    | some d =>
      rw [ed] at e
      cases e
      obtain ⟨v, ev, hv⟩ := g.get ed
      have hs : SqT K H a xs := sqT_same (k.fr.trans Fz_le) h
      refine ⟨⟨xs, v, hs, ev⟩, fun x H' hy => ?_⟩
      obtain ⟨rfl, f⟩ := hy
      have := f xs hs
      rw [ev] at this
      cases this
      exact ⟨Same.refl _, .dat (hv.same k.fr)⟩
  · intro Ω H k
    rw [List.length_map]
    exact ⟨xs, sqT_same (k.fr.trans Fz_le) h, by rw [g.length]; exact Nat.le_refl _⟩
theorem walk_l {F : Hp} {a : Addr} {xs : List V} (h : F a = some (.lst xs)) (g : DqAll K F xs ds) : WalkA K F (Itl K a) (ds.map .dat) := by
  constructor
  · intro Ω H k i b e
    rw [List.getElem?_map] at e
    cases ed : ds[i]? with
    | none => rw [ed] at e; cases e
    | some d =>
      rw [ed] at e
      cases e
      obtain ⟨v, ev, hv⟩ := g.get ed
      have hs : SqL K H a xs := SqL.of ((k.fr.trans Fz_le) _ _ h)
      refine ⟨⟨xs, v, hs, ev⟩, fun x H' hy => ?_⟩
      obtain ⟨rfl, f⟩ := hy
      have := f xs hs
      rw [ev] at this
      cases this
      exact ⟨Same.refl _, .dat (hv.same k.fr)⟩
  · intro Ω H k
    rw [List.length_map]
    exact ⟨xs, SqL.of ((k.fr.trans Fz_le) _ _ h), by rw [g.length]; exact Nat.le_refl _⟩
def rngA (lo : Int) (n : Nat) : List Av := (List.range n).map fun k => .dat (.int (lo + (k : Nat)))
theorem walk_r {F : Hp} (lo : Int) (n : Nat) : WalkA K F (Itr lo n) (rngA lo n) := by
  constructor
  · intro Ω H k i b e
    unfold rngA at e
    rw [List.getElem?_map] at e
    by_cases hi : i < n
    · rw [List.getElem?_range hi] at e
      cases e
      exact ⟨hi, fun x H' hy => by
        obtain ⟨rfl, rfl⟩ := hy
        exact ⟨Same.refl _, .dat (.int _)⟩⟩
    · rw [List.getElem?_eq_none (by rw [List.length_range]; omega)] at e
      cases e
  · intro Ω H k
    unfold rngA
    rw [List.length_map, List.length_range]
    exact Nat.le_refl _
theorem i_tup {P : List Av → AH → Prop} (h : EW K te Γ Ω fun a Ω1 => ∃ ds, a = .dat (.tuple ds) ∧ P (ds.map .dat) Ω1) : IW K (iTup K te) Γ Ω P := fun F σ H R k q =>
  h F σ H _ k fun a v Ω1 H1 ⟨ds, e, hp⟩ k1 v1 => by
    subst e
    cases v1 with | dat v1 => cases v1 with | tup hs g =>
      exact ⟨_, rfl, ⟨_, sqT_same Fz_le hs⟩, q _ _ _ _ hp k1 (walk_t hs g)⟩
theorem i_list {P : List Av → AH → Prop} (h : EW K te Γ Ω fun a Ω1 => ∃ ds, a = .dat (.list ds) ∧ P (ds.map .dat) Ω1) : IW K (iList K te) Γ Ω P := fun F σ H R k q =>
  h F σ H _ k fun a v Ω1 H1 ⟨ds, e, hp⟩ k1 v1 => by
    subst e
    cases v1 with | dat v1 => cases v1 with | lst hs g =>
      exact ⟨_, rfl, ⟨_, SqL.of (Fz_le _ _ hs)⟩, q _ _ _ _ hp k1 (walk_l hs g)⟩
theorem i_rng1 {P : List Av → AH → Prop} (h : AW K tl Γ Ω fun as Ω1 => ∃ n : Int, as = [.dat (.int n)] ∧ (-(2 ^ 62) ≤ n ∧ n < 2 ^ 62) ∧ P (rngA 0 n.toNat) Ω1) : IW K (iRng1 tl) Γ Ω P := fun F σ H R k q =>
  h F σ H _ k fun as vs Ω1 H1 ⟨n, e, b, hp⟩ k1 v1 => by
    subst e
    cases v1 with | cons va v1 => cases v1; cases va with | dat va =>
      cases va
      exact ⟨n, rfl, b.1, b.2, q _ _ _ _ hp k1 (walk_r 0 n.toNat)⟩
theorem i_rng2 {P : List Av → AH → Prop} (h : AW K tl Γ Ω fun as Ω1 => ∃ lo n : Int, as = [.dat (.int lo), .dat (.int n)] ∧ (-(2 ^ 62) ≤ lo ∧ lo < 2 ^ 62 ∧ -(2 ^ 62) ≤ n ∧ n < 2 ^ 62) ∧ P (rngA lo (n - lo).toNat) Ω1) : IW K (iRng2 tl) Γ Ω P := fun F σ H R k q =>
  h F σ H _ k fun as vs Ω1 H1 ⟨lo, n, e, b, hp⟩ k1 v1 => by
    subst e
    cases v1 with | cons va v1 => cases v1 with | cons vb v1 => cases v1; cases va with | dat va => cases vb with | dat vb =>
      cases va
      cases vb
      exact ⟨lo, n, rfl, b, q _ _ _ _ hp k1 (walk_r lo _)⟩
/-- for: a word of the turn over the abstract state -/
theorem s_for {wi : TI} (M : List Av → Nat → List (Option Av) → AH → Prop) (h : IW K wi Γ Ω fun as Ω1 => M as 0 Γ Ω1 ∧
      (∀ i a Γ' Ω', as[i]? = some a → M as i Γ' Ω' → GW K g a Γ' Ω' fun Γ2 Ω2 => SW K t Γ2 Ω2 { E with nx := M as (i + 1), ct := M as (i + 1), bk := E.nx }) ∧ ∀ Γ' Ω', M as as.length Γ' Ω' → E.nx Γ' Ω') : SW K (tFor wi g t) Γ Ω E := fun F σ H D k e =>
  h F σ H _ k fun as Ω1 H1 J ⟨h0, hs, hd⟩ k1 wk => by
    have e1 := e.anchor k1.fr
    refine ⟨fun i m σ' H' => m = as.length - i ∧ i ≤ as.length ∧ ∃ Γ' Ω', M as i Γ' Ω' ∧ Ok K (Fz Ω1 H1) Ω' Γ' σ' H', ⟨_, rfl, Nat.zero_le _, Γ, Ω1, h0, k1.re⟩, ?_⟩
    rintro i m σ' H' ⟨rfl, hi, Γ', Ω', hm, k'⟩
    by_cases hlt : i < as.length
    · obtain ⟨hg, hy⟩ := wk.go Ω' H' k'.bare i _ (List.getElem?_eq_getElem hlt)
      refine .inr ⟨hg, fun σ2 H2 => ∃ Γ2 Ω2, M as (i + 1) Γ2 Ω2 ∧ Ok K (Fz Ω1 H1) Ω2 Γ2 σ2 H2, fun σ2 H2 ⟨Γ2, Ω2, hm2, k2⟩ => ⟨_, by omega, rfl, by omega, Γ2, Ω2, hm2, k2⟩, fun x H2 hyx => ?_⟩
      obtain ⟨s2, v2⟩ := hy x H2 hyx
      exact hs i _ Γ' Ω' (List.getElem?_eq_getElem hlt) hm (Fz Ω1 H1) σ' H2 x _ (k'.same s2) v2 fun Γ3 σ3 Ω3 H3 h3 k3 =>
        h3 (Fz Ω1 H1) σ3 H3 _ k3 ⟨fun Γ4 σ4 Ω4 H4 h4 k4 => ⟨Γ4, Ω4, h4, k4⟩, e1.rt, e1.nx, fun Γ4 σ4 Ω4 H4 h4 k4 => ⟨Γ4, Ω4, h4, k4⟩⟩
    · have ei : i = as.length := by omega
      subst ei
      exact .inl ⟨wk.stop Ω' H' k'.bare, e1.nx _ _ _ _ (hd Γ' Ω' hm) k'⟩
/-- while -/
theorem s_while (M : Nat → List (Option Av) → AH → Prop) (m0 : Nat) (h0 : M m0 Γ Ω)
    (hs : ∀ m Γ' Ω', M m Γ' Ω' → TW K tt Γ' Ω' fun b Ω1 => (b = true → SW K t Γ' Ω1 { E with nx := fun Γ2 Ω2 => ∃ m', m' < m ∧ M m' Γ2 Ω2, ct := fun Γ2 Ω2 => ∃ m', m' < m ∧ M m' Γ2 Ω2, bk := E.nx }) ∧ (b = false → E.nx Γ' Ω1)) : SW K (tWhile tt t) Γ Ω E := fun F σ H D k e => by
  refine ⟨fun m σ' H' => ∃ Γ' Ω', M m Γ' Ω' ∧ Ok K F Ω' Γ' σ' H', ⟨m0, Γ, Ω, h0, k⟩, ?_⟩
  rintro m σ' H' ⟨Γ', Ω', hm, k'⟩
  refine hs m Γ' Ω' hm F σ' H' _ k' fun b Ω1 H1 hb k1 => ?_
  cases b with
  | true =>
    show ∃ N : L2.St → Hp → Prop, (∀ σ' H', N σ' H' → ∃ m', m' < m ∧ ∃ Γ' Ω', M m' Γ' Ω' ∧ Ok K F Ω' Γ' σ' H') ∧ t { D with nx := N, ct := N, bk := D.nx } σ' H1
    exact ⟨fun σ2 H2 => ∃ Γ2 Ω2, (∃ m', m' < m ∧ M m' Γ2 Ω2) ∧ Ok K F Ω2 Γ2 σ2 H2, fun σ2 H2 ⟨Γ2, Ω2, ⟨m', lt, h2⟩, k2⟩ => ⟨m', lt, Γ2, Ω2, h2, k2⟩,
      hb.1 rfl F σ' H1 _ k1 ⟨fun Γ2 σ2 Ω2 H2 h2 k2 => ⟨Γ2, Ω2, h2, k2⟩, e.rt, e.nx, fun Γ2 σ2 Ω2 H2 h2 k2 => ⟨Γ2, Ω2, h2, k2⟩⟩⟩
  | false => exact e.nx _ _ _ _ (hb.2 rfl) k1
/-! ### comprehensions -/
/-- a target that stores into these slots alone -/
def GN (g : TG) (js : List Nat) : Prop := ∀ (v : V) (σ : L2.St) (H : Hp) (Q Q' : L2.St → Hp → Prop), (∀ σ' H', σ'.length = σ.length → (∀ i, i ∉ js → σ'[i]? = σ[i]?) → Q σ' H' → Q' σ' H') → g v σ H Q → g v σ H Q'
def GNs (g : TGs) (js : List Nat) : Prop := ∀ (vs : List V) (σ : L2.St) (H : Hp) (Q Q' : L2.St → Hp → Prop), (∀ σ' H', σ'.length = σ.length → (∀ i, i ∉ js → σ'[i]? = σ[i]?) → Q σ' H' → Q' σ' H') → g vs σ H Q → g vs σ H Q'
theorem gn_name {js : List Nat} (h : i ∈ js) : GN (gName i) js := fun v σ H Q Q' f q => f _ _ (List.length_set ..) (fun j hj => List.getElem?_set_ne (fun e => hj (by rw [← e]; exact h))) q
theorem gns_nil {js : List Nat} : GNs gNil js := fun vs σ H Q Q' f ⟨e, q⟩ => ⟨e, f _ _ rfl (fun _ _ => rfl) q⟩
theorem gns_cons {js : List Nat} (h1 : GN g js) (h2 : GNs gs js) : GNs (gCons g gs) js := fun vs σ H Q Q' f ⟨v, r, e, q⟩ => ⟨v, r, e, h1 v σ H _ _ (fun σ1 H1 l1 a1 q1 => h2 r σ1 H1 Q Q' (fun σ2 H2 l2 a2 q2 => f σ2 H2 (l2.trans l1) (fun i hi => (a2 i hi).trans (a1 i hi)) q2) q1) q⟩
theorem gn_tup {n : Nat} {js : List Nat} (h : GNs gs js) : GN (gTup K n gs) js := fun v σ H Q Q' f ⟨a, xs, e, hs, l, q⟩ => ⟨a, xs, e, hs, l, h xs σ H Q Q' f q⟩
theorem wipe_get {σ : L2.St} {i : Nat} : ∀ {vs : List Nat}, (L2.wipe σ vs)[i]? = if i ∈ vs ∧ i < σ.length then some none else σ[i]?
  | [] => by simp [L2.wipe]
  | v :: vs => by
    unfold L2.wipe
    by_cases e : v = i
    · subst e
      by_cases hl : v < σ.length
      · rw [List.getElem?_set_self (by rw [wipe_length]; exact hl), if_pos ⟨List.mem_cons_self, hl⟩]
      · rw [List.getElem?_eq_none (by rw [List.length_set, wipe_length]; omega), if_neg (fun h => hl h.2), List.getElem?_eq_none (by omega)]
    · rw [List.getElem?_set_ne e, wipe_get]
      have e' : ¬ i = v := fun q => e q.symm
      simp only [List.mem_cons, e', false_or]
theorem wipe_agree {σ σ2 : L2.St} {vs : List Nat} (l : σ2.length = (L2.wipe σ vs).length) (h : ∀ i, i ∉ vs → σ2[i]? = (L2.wipe σ vs)[i]?) : L2.wipe σ2 vs = L2.wipe σ vs := by
  rw [wipe_length] at l
  apply List.ext_getElem?
  intro i
  rw [wipe_get, wipe_get]
  by_cases hi : i ∈ vs
  · by_cases hl : i < σ.length
    · rw [if_pos ⟨hi, by omega⟩, if_pos ⟨hi, hl⟩]
    · rw [if_neg (fun z => hl (by omega)), if_neg (fun z => hl z.2), List.getElem?_eq_none (by omega), List.getElem?_eq_none (by omega)]
  · rw [if_neg (fun z => hi z.1), if_neg (fun z => hi z.1), h i hi, wipe_get, if_neg (fun z => hi z.1)]
/-- D: where the list grows; M: a word of the turn and what is made so far -/
theorem e_lc {wi : TI} {vs : List Nat} {P : Av → AH → Prop} (hg : GN g vs) (M : Addr → List Av → Nat → List Av → AH → Prop)
    (h : IW K wi Γ Ω fun as Ω1 => as.length ≤ 50000 ∧ ∀ D, Ω1 D = none → M D as 0 [] (put Ω1 D []) ∧
      (∀ i a acc Ω', as[i]? = some a → M D as i acc Ω' → Ω' D = some acc ∧ acc.length ≤ i ∧ GW K g a (wipeA Γ vs) Ω' fun Γ2 Ω2 => TW K tt Γ2 Ω2 fun b Ω3 =>
        (b = true → EW K te Γ2 Ω3 fun y Ω4 => Ω4 D = some acc ∧ M D as (i + 1) (acc ++ [y]) (put Ω4 D (acc ++ [y]))) ∧ (b = false → M D as (i + 1) acc Ω3)) ∧
      ∀ acc Ω', M D as as.length acc Ω' → P (.ptr D) Ω') : EW K (tLc wi g tt te vs) Γ Ω P := fun F σ H Q k q =>
  h F σ H _ k fun as Ω1 H1 J ⟨hz, hM⟩ k1 wk D nD => by
    obtain ⟨h0, hs, hd⟩ := hM D (k1.free nD)
    refine ⟨fun i m H' => m = as.length - i ∧ i ≤ as.length ∧ ∃ acc Ω', M D as i acc Ω' ∧ Ok K (Fz Ω1 H1) Ω' Γ σ H', ⟨_, rfl, Nat.zero_le _, [], put Ω1 D [], h0, k1.re.new nD .nil⟩, ?_⟩
    rintro i m H' ⟨rfl, hi, acc, Ω', hm, k'⟩
    by_cases hlt : i < as.length
    · obtain ⟨hgo, hy⟩ := wk.go Ω' H' k'.bare i _ (List.getElem?_eq_getElem hlt)
      refine .inr ⟨hgo, fun H2 => ∃ acc Ω2, M D as (i + 1) acc Ω2 ∧ Ok K (Fz Ω1 H1) Ω2 Γ σ H2, fun H2 ⟨acc2, Ω2, hm2, k2⟩ => ⟨_, by omega, rfl, by omega, acc2, Ω2, hm2, k2⟩, fun x H2 hyx => ?_⟩
      obtain ⟨s2, v2⟩ := hy x H2 hyx
      obtain ⟨eD, la, hb⟩ := hs i _ acc Ω' (List.getElem?_eq_getElem hlt) hm
      have k2 := k'.same s2
      refine hg x (L2.wipe σ vs) H2 _ _ (fun σ3 H3 l3 a3 q3 => ⟨wipe_agree l3 a3, q3⟩) ?_
      refine hb (Fz Ω' H2) (L2.wipe σ vs) H2 x _ (k2.re.wipe vs) v2 fun Γ3 σ3 Ω3 H3 h3 k3 => ?_
      refine h3 (Fz Ω3 H3) σ3 H3 _ k3.re fun b Ω4 H4 h4 k4 => ?_
      have k4' : Ok K (Fz Ω1 H1) Ω4 Γ σ H4 := k2.back ((k4.anchor k3.fr).bare)
      cases b with
      | true =>
        refine h4.1 rfl (Fz Ω4 H4) σ3 H4 _ k4.re fun y v Ω5 H5 ⟨e5, h5⟩ k5 v5 => ?_
        have k5' : Ok K (Fz Ω1 H1) Ω5 Γ σ H5 := k4'.back k5.bare
        obtain ⟨xs, hx, g5⟩ := k5.st D acc e5
        have l5 := g5.length
        exact ⟨xs, hx, sz_lt (by omega), _, _, h5, k5'.put e5 (g5.app (.cons v5 .nil))⟩
      | false => exact ⟨acc, Ω4, h4.2 rfl, k4'⟩
    · have ei : i = as.length := by omega
      subst ei
      exact .inl ⟨wk.stop Ω' H' k'.bare, q _ _ _ _ (hd acc Ω' hm) (k'.anchor k1.fr) (.ptr D)⟩
/-- the same, nothing changed by a turn: what is made of each item, and which items are taken -/
theorem e_lcF {α : Type} {wi : TI} {vs : List Nat} {P : Av → AH → Prop} (xs : List α) (enc : α → Av) (p : α → Bool) (out : α → PyData) (hg : GN g vs) (hz : xs.length ≤ 50000)
    (h : IW K wi Γ Ω fun as Ω1 => as = xs.map enc ∧ (∀ x Ω', x ∈ xs → (∀ q bs, Ω1 q = some bs → Ω' q = some bs) → GW K g (enc x) (wipeA Γ vs) Ω' fun Γ2 Ω2 => Ω2 = Ω' ∧ TW K tt Γ2 Ω2 fun b Ω3 => Ω3 = Ω' ∧ b = p x ∧ (p x = true → EW K te Γ2 Ω3 fun y Ω4 => Ω4 = Ω' ∧ y = .dat (out x))) ∧
      P (.dat (.list ((xs.filter p).map out))) Ω1) : EW K (tLc wi g tt te vs) Γ Ω P := by
  refine EW.frz ?_
  refine e_lc hg (fun D as i acc Ω' => ∃ Ω1 : AH, Ω1 D = none ∧ as = xs.map enc ∧ acc = (((xs.take i).filter p).map out).map .dat ∧ Ω' = put Ω1 D acc ∧ (∀ x Ω', x ∈ xs → (∀ q bs, Ω1 q = some bs → Ω' q = some bs) → GW K g (enc x) (wipeA Γ vs) Ω' fun Γ2 Ω2 => Ω2 = Ω' ∧ TW K tt Γ2 Ω2 fun b Ω3 => Ω3 = Ω' ∧ b = p x ∧ (p x = true → EW K te Γ2 Ω3 fun y Ω4 => Ω4 = Ω' ∧ y = .dat (out x))) ∧
      P (.dat (.list ((xs.filter p).map out))) Ω1) fun F σ H R k q => h F σ H R k fun as Ω1 H1 J ⟨e, hb, hp⟩ k1 wk => q as Ω1 H1 J ⟨by rw [e, List.length_map]; exact hz, fun D nD => ⟨⟨Ω1, nD, e, by simp, rfl, hb, hp⟩, fun i a acc Ω' ea hm => ?_, fun acc Ω' hm => ?_⟩⟩ k1 wk
  · obtain ⟨Ω0, n0, e0, rfl, rfl, hb0, hp0⟩ := hm
    subst e0
    rw [List.getElem?_map] at ea
    cases ex : xs[i]? with
    | none => rw [ex] at ea; cases ea
    | some x =>
      rw [ex] at ea
      cases ea
      have mx : x ∈ xs := List.mem_of_getElem? ex
      have tk : (xs.take (i + 1)).filter p = (xs.take i).filter p ++ (if p x = true then [x] else []) := by
        rw [List.take_add_one, ex, List.filter_append]
        show _ ++ (List.filter p [x]) = _
        rw [List.filter_cons, List.filter_nil]
      refine ⟨put_same, ?_, ?_⟩
      · rw [List.length_map, List.length_map]
        exact Nat.le_trans (List.length_filter_le ..) (by rw [List.length_take]; omega)
      refine fun F' σ' H' v Q' k' v' q' => hb0 x _ mx (fun q bs hq => by
        rw [put_ne (ne_of_Ω hq n0)]
        exact hq) F' σ' H' v Q' k' v' fun Γ2 σ2 Ω2 H2 ⟨e2, h2⟩ k2 => q' Γ2 σ2 Ω2 H2 ?_ k2
      subst e2
      refine fun F' σ' H' Q' k' q' => h2 F' σ' H' Q' k' fun b Ω3 H3 ⟨e3, eb, h3⟩ k3 => q' b Ω3 H3 ⟨fun hb => ?_, fun hb => ?_⟩ k3
      · subst e3
        refine (h3 (eb.symm.trans hb)).mono fun y Ω4 ⟨e4, ey⟩ => ?_
        subst e4 ey
        refine ⟨put_same, Ω0, n0, rfl, ?_, by rw [put_put], hb0, hp0⟩
        rw [tk, if_pos (eb.symm.trans hb), List.map_append, List.map_append]
        rfl
      · subst e3
        refine ⟨Ω0, n0, rfl, ?_, rfl, hb0, hp0⟩
        rw [tk, if_neg (by rw [← eb, hb]; decide), List.append_nil]
  · obtain ⟨Ω0, n0, e0, rfl, rfl, hb0, hp0⟩ := hm
    refine ⟨D, _, rfl, put_same, ?_⟩
    rw [del_put n0, e0, List.length_map, List.take_length]
    exact hp0
theorem e_lcM {α : Type} {wi : TI} {vs : List Nat} {P : Av → AH → Prop} (xs : List α) (enc : α → Av) (out : α → PyData) (hg : GN g vs) (hz : xs.length ≤ 50000)
    (h : IW K wi Γ Ω fun as Ω1 => as = xs.map enc ∧ (∀ x Ω', x ∈ xs → (∀ q bs, Ω1 q = some bs → Ω' q = some bs) → GW K g (enc x) (wipeA Γ vs) Ω' fun Γ2 Ω2 => Ω2 = Ω' ∧ EW K te Γ2 Ω2 fun y Ω4 => Ω4 = Ω' ∧ y = .dat (out x)) ∧
      P (.dat (.list (xs.map out))) Ω1) : EW K (tLc wi g tYes te vs) Γ Ω P :=
  e_lcF xs enc (fun _ => true) out hg hz fun F σ H R k q => h F σ H R k fun as Ω1 H1 J ⟨e, hb, hp⟩ k1 wk => q as Ω1 H1 J ⟨e, fun x Ω' mx hq F' σ' H' v Q' k' v' q' => hb x Ω' mx hq F' σ' H' v Q' k' v' fun Γ2 σ2 Ω2 H2 ⟨e2, h2⟩ k2 => q' Γ2 σ2 Ω2 H2 ⟨e2, t_yes ⟨e2, rfl, fun _ => h2⟩⟩ k2, by
    rw [List.filter_eq_self.mpr (fun _ _ => rfl)]
    exact hp⟩ k1 wk
/-! ### calls of defs -/
abbrev ASp := List Av → AH → (Av → AH → Prop) → Prop
def spA (K : PySem.W.Frag) [Tb K] (sp : ASp) : Sp := fun vs H Q _ => ∃ (F : Hp) (Ω : AH) (as : List Av) (P : Av → AH → Prop), Ok K F Ω [] [] H ∧ VAll K (Fz Ω H) as vs ∧ sp as Ω P ∧ ∀ a v Ω' H', P a Ω' → Ok K F Ω' [] [] H' → VOk K (Fz Ω' H') a v → Q v H'
theorem e_call {sp : ASp} {X : XK} {P : Av → AH → Prop} (h : AW K tl Γ Ω fun as Ω1 => sp as Ω1 P) : EW K (tCall (spA K sp) [] X tl) Γ Ω P := fun F σ H Q k q =>
  h F σ H _ k fun as vs Ω1 H1 h1 k1 v1 => by
    show spA K sp (vs ++ []) H1 Q X
    rw [List.append_nil]
    exact ⟨Fz Ω1 H1, Ω1, as, P, k1.bare.re, v1, h1, fun a v Ω' H' hp k' hv => q a v Ω' H' hp (k1.back k') hv⟩
theorem e_callD {sp : ASp} {X : XK} {P : Av → AH → Prop} {dvs : List V} {das : List Av} (hd : ∀ F, VAll K F das dvs) (h : AW K tl Γ Ω fun as Ω1 => sp (as ++ das) Ω1 P) : EW K (tCall (spA K sp) dvs X tl) Γ Ω P := fun F σ H Q k q =>
  h F σ H _ k fun as vs Ω1 H1 h1 k1 v1 => ⟨Fz Ω1 H1, Ω1, as ++ das, P, k1.bare.re, v1.app (hd _), h1, fun a v Ω' H' hp k' hv => q a v Ω' H' hp (k1.back k') hv⟩
theorem e_callN {sp : ASp} {X : XK} {P : Av → AH → Prop} {n m : Nat} {gV : List V → List V → List V} {tk : TA} (gA : List Av → List Av → List Av) (hg : ∀ F as bs vs us, VAll K F as vs → VAll K F bs us → VAll K F (gA as bs) (gV vs us))
    (h : AW K tl Γ Ω fun as Ω1 => AW K tk Γ Ω1 fun bs Ω2 => as.length = n ∧ bs.length = m ∧ sp (gA as bs) Ω2 P) : EW K (tCallN n m (spA K sp) gV X tl tk) Γ Ω P := fun F σ H Q k q =>
  h F σ H _ k fun as vs Ω1 H1 h1 k1 v1 => h1 (Fz Ω1 H1) σ H1 _ k1.re fun bs us Ω2 H2 ⟨l1, l2, h2⟩ k2 v2 => ⟨v1.length.trans l1, v2.length.trans l2, Fz Ω2 H2, Ω2, gA as bs, P, k2.bare.re, hg _ _ _ _ _ (v1.same k2.fr) v2, h2, fun a v Ω' H' hp k' hv => q a v Ω' H' hp ((k2.anchor k1.fr).back k') hv⟩
/-- keywords in another order -/
def kwV (π : List Nat) (zs : List V) : List V := π.map fun i => zs.getD i .non
def kwA (π : List Nat) (zs : List Av) : List Av := π.map fun i => zs.getD i (.dat .none)
def kwU (π : List Nat) (zs : List Value) : List Value := π.map fun i => zs.getD i .none
theorem kw_va {F : Hp} {bs : List Av} {us : List V} (h : VAll K F bs us) : ∀ π : List Nat, VAll K F (kwA π bs) (kwV π us)
  | [] => .nil
  | i :: r => .cons (by
      show VOk K F (bs.getD i (.dat .none)) (us.getD i .non)
      rw [List.getD_eq_getElem?_getD, List.getD_eq_getElem?_getD]
      cases e : bs[i]? with
      | none =>
        have : us[i]? = none := by
          rw [List.getElem?_eq_none_iff] at e ⊢
          rw [h.length]
          exact e
        rw [this]
        exact .dat .non
      | some b =>
        obtain ⟨v, ev, hv⟩ := h.get e
        rw [ev]
        exact hv) (kw_va h r)
theorem kw_vals {zs : List V} {ws : List Value} (h : Vals zs ws) : ∀ π : List Nat, Vals (kwV π zs) (kwU π ws)
  | [] => .nil
  | i :: r => .cons (by
      show L2.RelV (zs.getD i .non) (ws.getD i .none)
      rw [List.getD_eq_getElem?_getD, List.getD_eq_getElem?_getD]
      cases e : zs[i]? with
      | none =>
        have : ws[i]? = none := by
          rw [List.getElem?_eq_none_iff] at e ⊢
          rw [← h.length]
          exact e
        rw [this]
        rfl
      | some b =>
        obtain ⟨v, ev, hv⟩ := h.get e
        rw [ev]
        exact hv) (kw_vals h r)
end
section
variable {P : Program} {w : World} {K : PySem.W.Frag} [Tb K] {mg : Str → Option Value} {base : Heap}
theorem spA_len {sp : ASp} {n : Nat} (len : ∀ as Ω P, sp as Ω P → as.length = n) : ∀ vs H Q E, spA K sp vs H Q E → vs.length = n := fun vs H Q E ⟨F, Ω, as, P, k, va, h, _⟩ => va.length.trans (len as Ω P h)
/-- a def of the text keeps its promise -/
theorem fnA_ok {x qual : Str} {st : Stmt} {f : Addr} {fd : FuncData} {N ps : List Str} {k : Nat} {sp : ASp} (F : L2.Fun K x qual st f fd) (S : FnScope N ps (defScope st)) (len : ∀ as Ω P, sp as Ω P → as.length = ps.length)
    (hbody : ∀ (cdv : Value) (A : Around) (outer : List Env) (s : Shared) (H : Hp) (E : XK), Room k (A.deeper (envOfC qual (defScope st) s.heap.objs.size f cdv)) →
      ∃ t, PSs (cxOf CX0 P w K mg base N qual (defScope st) f cdv A outer s H E).nox (defBody st) t ∧ ∀ as Ω P, sp as Ω P → SW K t (as.map some ++ List.replicate (N.length - as.length) none) Ω { nx := fun _ Ω' => P (.dat .none) Ω', rt := P }) :
    FnOk P w K mg base CX0 (k + 1) f fd ps (spA K sp) := by
  refine F.ok S (spA_len len) fun cdv A outer s H vs Q E hr h => ?_
  obtain ⟨t, ht, hs⟩ := hbody cdv A outer s H E hr
  obtain ⟨F0, Ω, as, P, k0, va, h, hq⟩ := h
  refine ⟨t, ht, hs as Ω P h F0 (L2.start N vs) H _ ⟨k0.fr, k0.st, ?_, k0.tb, k0.ob⟩ ⟨fun Γ' σ' Ω' H' hp k' => hq _ _ _ _ hp k'.bare (.dat .non), fun a v Ω' H' hp k' hv => hq _ _ _ _ hp k' hv, fun _ _ _ _ z => z.elim, fun _ _ _ _ z => z.elim⟩⟩
  unfold L2.start
  rw [va.length]
  exact Slots.start (N := N) va _
end
end Dat

set_option Elab.async false
set_option linter.all false
set_option maxRecDepth 100000
set_option maxHeartbeats 1000000
/-! a lambda with parameters, handed to a def that calls it -/
namespace Clo
open PySem PySem.Spec PyProof.Rows L2 LamX NdefX
section
variable {cl : List (Str × Addr)} {fr : List Str} {ws : List (Option V)} {Z : Cx} {pins : List (Addr × Obj)} {σ : L2.St} {H : Hp} {s : Shared}
theorem cells_later (C : CellsAt cl fr ws Z.s_0.heap Z.H_0) (hx : Z.ex = []) (I : Inv Z pins σ H s) : CellsAt cl fr ws s.heap H := by
  have nx : ∀ b : Addr, b ∉ Z.ex := fun b q => by
    rw [hx] at q
    cases q
  have cell : ∀ y c, cl.lookup y = some c → ∀ v, Z.s_0.heap.IsCell c v → s.heap.IsCell c v := fun y c e v w => by
    obtain ⟨o, ho, hd⟩ := w
    obtain ⟨sl, q⟩ := I.base.any ho (C.all y c e).1 (nx c)
    exact ⟨_, q, hd⟩
  constructor
  · exact C.len
  · intro y c e
    obtain ⟨n, v, z⟩ := C.all y c e
    obtain ⟨o, ho, hd⟩ := id z
    exact ⟨I.base.free c o ho n (nx c), v, cell y c e v z⟩
  · exact C.inj
  · intro i y e
    obtain ⟨c, hc, hv⟩ := C.has i y e
    exact ⟨c, hc, fun v q => by
      obtain ⟨u, r, z⟩ := hv v q
      exact ⟨u, r, cell y c hc _ z⟩⟩
end
/-- the object at f is the lambda F with this body -/
def LamO (f : Addr) (F : NF) (body : Expr) : HO := .ext fun h => ∃ pm ctv, h.get? f = some (PySem.W.kla_obj F.name F.qual F.params body F.scope F.cl pm F.c ctv)
theorem lamO_at {P : Program} {w : World} {H : Hp} {h : Heap} {f : Addr} {F : NF} {body : Expr} (hok : HOk P w H h) (e : H f = some (LamO f F body)) : ∃ pm ctv, h.get? f = some (PySem.W.kla_obj F.name F.qual F.params body F.scope F.cl pm F.c ctv) := (hok f _ e).1
/-- what it promises; ws: what its captured cells hold -/
structure LOk (P : Program) (w : World) (K : PySem.W.Frag) (mg : Str → Option Value) (base : Heap) (CX : CXT) (k : Nat) (f : Addr) (F : NF) (body : Expr) (ps fr : List Str) (sp : List (Option V) → Sp) : Prop where
  len : ∀ ws vs H Q E, sp ws vs H Q E → vs.length = ps.length
  run : ∀ (A : Around) (outer : List Env) (s : Shared) (H : Hp) (us : List Value) (vs : List V) (ws : List (Option V)) (Q : VK) (E : XK), Room k A → Env0 P w K mg base A outer s H → H f = some (LamO f F body) →
    H F.c = some (CodeO F.c F.qual) → CellsAt F.cl fr ws s.heap H → Vals vs us → sp ws vs H Q E → codeAny (model P w) A (.call (.ref f) ⟨us, []⟩) (CR CX outer P w H s Q E) s
section
variable {CX : CXT} {P : Program} {w : World} {K : PySem.W.Frag} {mg : Str → Option Value} {base : Heap} {N ps fr : List Str} {F : NF} {f : Addr} {k : Nat} {sp : List (Option V) → Sp} {body : Expr}
theorem lok_of (S : NScope N ps fr F.scope) (hb : ∀ (pm ctv : Value) (us : List Value), us.length = ps.length → bindArgs (PySem.W.kla_fn F.name F.qual F.params body F.scope F.cl pm (.ref F.c) ctv) ⟨us, []⟩ = pure (ps.zip us))
    (len : ∀ ws vs H Q E, sp ws vs H Q E → vs.length = ps.length)
    (hbody : ∀ (A : Around) (outer : List Env) (s : Shared) (H : Hp) (vs : List V) (ws : List (Option V)) (Q : VK) (E : XK), Room k (A.deeper (envF F f s.heap.objs.size)) → ws.length = fr.length → sp ws vs H Q E →
      ∃ t, PE (ncx CX P w K mg base N F f A outer s H E) body t ∧ t (startF N vs ws) H Q) : LOk P w K mg base CX (k + 1) f F body ps fr sp := by
  constructor
  · exact len
  intro A outer s H us vs ws Q E hr e0 hf hc C r hsp
  have hl := len _ _ _ _ _ hsp
  have lim : s.heap.NoLimit := e0.mod.nolimit.keeps fun b o e => (e0.bs b o e).1
  obtain ⟨pm, ctv, ho⟩ := lamO_at e0.hok hf
  obtain ⟨⟨oc, vc, t, hoc, hdc, hvc⟩, _, _⟩ := e0.hok F.c _ hc
  refine PySem.W.kla_callFunE hr.depth ho rfl S.co S.gen rfl ⟨F.c, oc, vc, t, rfl, hoc, hdc, hvc⟩ ?_
  rw [hb pm ctv us (by rw [← r.length]; exact hl)]
  refine wpAny_pure (wpAny_newFunctionEnv S.nocell (fun y hy => S.par y.1 (List.of_mem_zip hy).1) (fun h₁ hns hsb => ⟨lim.fresh _ hsb, ?_⟩) S.kind)
  show codeAny _ _ (.expr body (envF F f s.heap.objs.size)) _ _
  obtain ⟨t2, ht, hq⟩ := hbody A outer s H vs ws Q E (hr.deeper _) C.len hsp
  have J := inv_startN (CX := CX) (N := N) (w := w) (E := E) (F := F) (f := f) (tk := s.toks + (ps.zip us).length) S hr.hd e0 hl r C hns (fun b o e => hsb.extBut b o (Nat.ne_of_lt (Heap.lt_size e)) (Heap.get?_push_of_some _ e))
  refine PySem.W.kla_codeExpr (wpAny_mono (ht.run [] _ (startF N vs ws) H Q J hq) (fun v s' z => ?_) fun e s' z => z)
  obtain ⟨u, H', J', rv, qv⟩ := z
  exact ⟨u, H', J'.os, J'.bare, J'.base, J'.hok, rv, qv⟩
end
/-- a def that is given a closure: its promise, the captured cells known at the call -/
structure FnC (P : Program) (w : World) (K : PySem.W.Frag) (mg : Str → Option Value) (base : Heap) (CX : CXT) (k : Nat) (g : Addr) (gd : FuncData) (ps : List Str) (cl : List (Str × Addr)) (fr : List Str) (sp : List (Option V) → Sp) : Prop where
  run : ∀ (A : Around) (outer : List Env) (s : Shared) (H : Hp) (args : Args) (us : List Value) (vs : List V) (ws : List (Option V)) (Q : VK) (E : XK), Room k A → Env0 P w K mg base A outer s H → BindsTo s gd args (ps.zip us) → Vals vs us →
    CellsAt cl fr ws s.heap H → sp ws vs H Q E → vs.length = ps.length → codeAny (model P w) A (.call (.ref g) args) (CR CX outer P w H s Q E) s
section
variable {CX : CXT} {P : Program} {w : World} {K : PySem.W.Frag} {mg : Str → Option Value} {base : Heap} {k : Nat} {g : Addr} {gd : FuncData} {x qual : Str} {st : Stmt} {N ps : List Str} {cl : List (Str × Addr)} {fr : List Str} {sp : List (Option V) → Sp}
theorem fnc_of (F : L2.Fun K x qual st g gd) (S : FnScope N ps (defScope st))
    (hbody : ∀ (cdv : Value) (A : Around) (outer : List Env) (s : Shared) (H : Hp) (vs : List V) (ws : List (Option V)) (Q : VK) (E : XK), Room k (A.deeper (envOfC qual (defScope st) s.heap.objs.size g cdv)) → CellsAt cl fr ws s.heap H → sp ws vs H Q E →
      ∃ t, PSs (cxOf CX0 P w K mg base N qual (defScope st) g cdv A outer s H E).nox (defBody st) t ∧ t { nx := fun _ H' => Q .non H', rt := Q } (start N vs) H) : FnC P w K mg base CX0 (k + 1) g gd ps cl fr sp := by
  obtain ⟨oc, od, kV, doc, pm, an, cdv, ct, osl, rfl, lk, hcd⟩ := F.ex
  constructor
  intro A outer s H args us vs ws Q E hr e0 hb r C hsp hl
  refine run_ofS lk hcd S hr e0 hb r hl fun hr' => ?_
  obtain ⟨t, ht, hq⟩ := hbody cdv A outer s H vs ws Q E hr' C hsp
  exact ⟨t, ht.nox, hq⟩
end
/-! ### the calls -/
def tHeld (i : Nat) (f : Addr) (F : NF) (body : Expr) (ws : List (Option V)) (sp : List (Option V) → Sp) (E : XK) (t : TA) : TE := fun σ H Q => σ[i]? = some (some (.ref f)) ∧ H f = some (LamO f F body) ∧
  t σ H fun vs H1 => H1 f = some (LamO f F body) ∧ H1 F.c = some (CodeO F.c F.qual) ∧ sp ws vs H1 Q E
theorem lam_fnAt {X : Cx} {pins : List (Addr × Obj)} {σ : L2.St} {H : Hp} {s : Shared} {f : Addr} {F : NF} {body : Expr} (I : Inv X pins σ H s) (e : H f = some (LamO f F body)) : PySem.W.FnAt f s.heap := by
  obtain ⟨pm, ctv, ho⟩ := lamO_at I.hok e
  exact ⟨_, _, _, _, ho⟩
section
variable {X : Cx} {CX : CXT} {i j k : Nat} {x : Str} {f : Addr} {F : NF} {body : Expr} {ps fr : List Str} {ws : List (Option V)} {sp : List (Option V) → Sp} {E : XK} {t : TA} {e : Expr} {es : List Expr} {p pos : Pos}
theorem pe_held (L : LOk X.prog X.w X.K X.mg X.base CX k f F body ps fr sp) (C : CellsAt F.cl fr ws X.s_0.heap X.H_0) (hex : X.ex = []) (hr : Room j X.A) (hk : k ≤ j) (hx : Passes CX X E) (hN : X.N[i]? = some x) (hv : Vis X.env.scope x)
    (ha : PA X (e :: es) t) (hd : (x == ("__debug__" : Str)) = false := by decide) (hcd : (x == ("__classdict__" : Str)) = false := by decide)
    (he : starEach (e :: es) X.env = (false, eval e X.env) :: starEach es X.env := by rfl) (hpl : (backTo pos (starEach es X.env)).any (·.1) = false := by rfl) :
    PE X (.Call (.Name x p) (e :: es) [] pos) (tHeld i f F body ws sp E t) := by
  constructor
  intro pins s σ H Q I h
  obtain ⟨hs, hf, ht⟩ := h
  refine wpAny_Call_Name_kw (thn ((pe_var (pos := p) hN hv hd hcd).run pins s σ H (fun v H1 => v = .ref f ∧ H1 = H) I ⟨.ref f, hs, rfl, rfl⟩) fun u s1 z => ?_)
  obtain ⟨v, H1, I1, r1, rfl, eH⟩ := z
  rw [eH] at I1
  cases (show u = Value.ref f from r1)
  refine PySem.W.callWith_F (first := []) (lam_fnAt I1 hf) (thn (ha.run pos pins s1 σ H _ I1 ht) fun us s2 z => ?_) he hpl
  obtain ⟨vs, H2, I2, r, h1, h2, q⟩ := z
  refine ⟨lam_fnAt I2 h1, ?_⟩
  refine wpAny_call (codeAny_mono (L.run X.A X.stack s2 H2 us vs ws Q E (hr.mono hk) I2.env0 h1 h2 (cells_later C hex I2) r q) fun r s' hq => ?_)
  cases r with
  | error e => exact hx pins σ H2 s2 e s' I2 hq
  | ok fl =>
    cases fl with
    | ret u => exact I2.after hq
    | next => exact hq.elim
    | brk => exact hq.elim
    | cont => exact hq.elim
/-- g(e, ..): a def of the text that is given a function which the running frame has made; js: where the captured names stand -/
def tCallC (js : List Nat) (sp : Addr → Addr → List (Option V) → Sp) (E : XK) (t : TA) : TE := fun σ H Q => t σ H fun vs H1 => ∃ f c', sp f c' (js.map (slotAt σ)) vs H1 Q E
theorem pe_callC {cl : List (Str × Addr)} {js : List Nat} {g : Addr} {gd : FuncData} {sp : Addr → Addr → List (Option V) → Sp} (G : ∀ f c', FnC X.prog X.w X.K X.mg X.base CX k g gd ps cl fr (sp f c')) (len : ∀ f c' ws vs H Q E, sp f c' ws vs H Q E → vs.length = ps.length) (cp : X.Ok → Caps X cl fr js) (hr : Room j X.A) (hk : k ≤ j)
    (hg : Gl X x) (hm : X.mg x = some (.ref g)) (hkp : PySem.W.keepIn X.K (.ref g) = true) (hb : Binds X.K gd ps []) (hx : Passes CX X E) (ha : PA X (e :: es) t) (hdb : (x == ("__debug__" : Str)) = false := by decide)
    (he : starEach (e :: es) X.env = (false, eval e X.env) :: starEach es X.env := by rfl) (hpl : (backTo pos (starEach es X.env)).any (·.1) = false := by rfl) :
    PE X (.Call (.Name x p) (e :: es) [] pos) (tCallC js sp E t) := by
  constructor
  intro pins s σ H Q I h
  refine wpAny_Call_Name_kw (ld_glob I hg hm ?_ hdb)
  refine PySem.W.callWith_K (h₀ := X.base) I.ok.mod.kin hkp (thn (ha.run pos pins s σ H _ I h) fun us s2 z => ?_) he hpl
  obtain ⟨vs, H2, I2, r, f0, c0, q⟩ := z
  refine ⟨I2.kIn, ?_⟩
  have hl := len _ _ _ _ _ _ _ q
  have bt : BindsTo s2 gd ⟨us, []⟩ (ps.zip us) := by
    have b := hb s2 us I2.kIn (by rw [List.append_nil, ← r.length]; exact hl)
    rw [List.append_nil] at b
    exact b
  refine wpAny_call (codeAny_mono ((G f0 c0).run X.A X.stack s2 H2 ⟨us, []⟩ us vs _ Q E (hr.mono hk) I2.env0 bt r (cells_of I2 (cp I2.ok)) q hl) fun r s' hq => ?_)
  cases r with
  | error e => exact hx pins σ H2 s2 e s' I2 hq
  | ok fl =>
    cases fl with
    | ret u => exact I2.after hq
    | next => exact hq.elim
    | brk => exact hq.elim
    | cont => exact hq.elim
end
/-! ### the lambda itself -/
def tLamE (T : List (Addr × Str)) (q : Str) (mk : Addr → NF) (body : Expr) : TE := fun _ H Q => Tabs T H ∧ ∀ (f c' : Addr) (H1 : Hp), ExtN H H1 → (∀ b, H1 b = none → H b = none) → Tabs T H1 → H f = none → H1 f = some (LamO f (mk c') body) → H1 c' = some (CodeO c' q) → Q (.ref f) H1
section
variable {X : Cx} {pins : List (Addr × Obj)} {σ : L2.St} {H : Hp} {s : Shared}
theorem lam_laid {F : NF} {body : Expr} {pm ctv : Value} {t' : Nat} (I : Inv X pins σ H s) :
    Inv X pins σ (upd H s.heap.objs.size (LamO s.heap.objs.size F body)) { s with heap := s.heap.push (PySem.W.kla_obj F.name F.qual F.params body F.scope F.cl pm F.c ctv), toks := t' } := by
  have e : (s.heap.push (PySem.W.kla_obj F.name F.qual F.params body F.scope F.cl pm F.c ctv)).get? s.heap.objs.size = some (PySem.W.kla_obj F.name F.qual F.params body F.scope F.cl pm F.c ctv) := Heap.get?_push_size _ rfl
  exact I.laid (a := s.heap.objs.size) (o := LamO s.heap.objs.size F body) (fun b u q => Heap.get?_push_of_some _ q) (Nat.le_refl _) ⟨⟨pm, ctv, e⟩, ⟨_, e⟩, fun h1 h2 ⟨a, b, z⟩ st => ⟨a, b, st _ z⟩⟩
theorem pe_lambda {T : List (Addr × Str)} {c P : Addr} {params : Arguments} {body : Expr} {scope : Scope} {pos : Pos} (TB : TabB X.base X.mg c P) (hcode : X.env.code = .ref c) (hm : (P, X.env.qual ++ "<lambda>") ∈ T)
    (hu : ∀ p ∈ T, p.1 = P → p.2 = X.env.qual ++ "<lambda>") (hdef : defaultsOf params X.env = ([], [])) (hfree : X.Ok → ∀ y ∈ scope.names, y.2 = .free → ∃ c, X.env.cells.lookup y.1 = some c) :
    PE X (.Lambda params body scope pos) (tLamE T (X.env.qual ++ "<lambda>") (fun c' => ⟨"<lambda>", X.env.qual ++ "<lambda>", params, [], scope, cloFrom X.env.cells scope.names [], c'⟩) body) := by
  constructor
  intro pins s σ H Q I hq
  obtain ⟨hT, h⟩ := hq
  obtain ⟨ps, hP, ht, ha⟩ := hT _ hm
  have bP : s.heap.BuiltinsAt X.mg P := TB.bm.keeps I.bk
  have hP' : s.heap.get? P = some { cls := .none, data := .fields ps } := I.hok P _ hP
  refine PySem.W.kla_eval hdef ?_
  rcases hc : codeAmong pos ps.toList with _ | cv
  · -- a new code object
    refine PySem.W.kla_makeFunction (mg := X.mg) (c := c) (P := P) (ps := ps) (closure_ok (hfree I.ok)) I.ok.glob (I.mod.glob.keeps I.bk) hcode (TB.code.keeps I.bk) hP' ht hc TB.gP bP fun c' ctv h' tk hx hge hlt hrec htb => ?_
    obtain ⟨c2, oc, vs, t, e2, hoc, hd, hv⟩ := hrec
    cases e2
    have nC : H c' = none := I.hok.fresh hge
    have nPC : P ≠ c' := ne_of_none hP nC
    have I1 : Inv X pins σ (upd (upd H P (.tbl (ps ++ #[rawInt pos.line, rawInt pos.col, .ref c']))) c' (CodeO c' (X.env.qual ++ "<lambda>"))) { s with heap := h', toks := tk } :=
      inv_table I hP (fun b o hb e => hx b o hb e) htb hge ⟨oc, vs, t, hoc, hd, hv⟩
    have nF : upd (upd H P (.tbl (ps ++ #[rawInt pos.line, rawInt pos.col, .ref c']))) c' (CodeO c' (X.env.qual ++ "<lambda>")) h'.objs.size = none := I1.hok.fresh (Nat.le_refl _)
    have I2 := lam_laid (F := ⟨"<lambda>", X.env.qual ++ "<lambda>", params, [], scope, cloFrom X.env.cells scope.names [], c'⟩) (body := body) (pm := (X.mg "__name__").getD .none) (ctv := ctv) (t' := tk) I1
    have nF0 : H h'.objs.size = none := upd_none (upd_none nF)
    have old : ∀ b o, H b = some o → (∀ q, o ≠ .tbl q) → upd (upd (upd H P (.tbl (ps ++ #[rawInt pos.line, rawInt pos.col, .ref c']))) c' (CodeO c' (X.env.qual ++ "<lambda>"))) h'.objs.size (LamO h'.objs.size ⟨"<lambda>", X.env.qual ++ "<lambda>", params, [], scope, cloFrom X.env.cells scope.names [], c'⟩ body) b = some o := fun b o e n => by
      rw [upd_ne (ne_of_none e nF0), upd_ne (ne_of_none e nC), upd_ne (fun z => n ps (Option.some.inj (e.symm.trans (by rw [z]; exact hP))))]
      exact e
    have atC : upd (upd (upd H P (.tbl (ps ++ #[rawInt pos.line, rawInt pos.col, .ref c']))) c' (CodeO c' (X.env.qual ++ "<lambda>"))) h'.objs.size (LamO h'.objs.size ⟨"<lambda>", X.env.qual ++ "<lambda>", params, [], scope, cloFrom X.env.cells scope.names [], c'⟩ body) c' = some (CodeO c' (X.env.qual ++ "<lambda>")) := by
      rw [upd_ne (ne_of_none upd_same nF), upd_same]
    refine ⟨.ref h'.objs.size, _, I2, rfl, h h'.objs.size c' _ old (fun b e => upd_none (upd_none (upd_none e))) (fun p hp => ?_) nF0 upd_same atC⟩
    by_cases hb : p.1 = P
    · rw [hu p hp hb, hb]
      have eL : (ps ++ #[rawInt pos.line, rawInt pos.col, .ref c']).toList = ps.toList ++ [rawInt pos.line, rawInt pos.col, .ref c'] := by simp
      refine ⟨ps ++ #[rawInt pos.line, rawInt pos.col, .ref c'], ?_, by rw [eL]; exact PySem.TriplesOk_snoc _ _ _ _ ht, fun p' cv q => ?_⟩
      · have atP : upd (upd H P (.tbl (ps ++ #[rawInt pos.line, rawInt pos.col, .ref c']))) c' (CodeO c' (X.env.qual ++ "<lambda>")) P = some (.tbl (ps ++ #[rawInt pos.line, rawInt pos.col, .ref c'])) := by rw [upd_ne nPC, upd_same]
        exact (upd_ne (ne_of_none atP nF)).trans atP
      · rw [eL] at q
        rcases among_app _ ht q with q | q
        · obtain ⟨c0, e1, e3⟩ := ha p' cv q
          exact ⟨c0, e1, old _ _ e3 codeO_ne⟩
        · exact ⟨c', q, atC⟩
    · obtain ⟨ps', a1, a2, a3⟩ := hT p hp
      refine ⟨ps', ?_, a2, fun p' cv q => ?_⟩
      · rw [upd_ne (ne_of_none a1 nF0), upd_ne (ne_of_none a1 nC), upd_ne hb]
        exact a1
      · obtain ⟨c0, e1, e3⟩ := a3 p' cv q
        exact ⟨c0, e1, old _ _ e3 codeO_ne⟩
  · -- the code object stands in the table
    obtain ⟨c', e, hco⟩ := ha pos cv hc
    subst e
    refine PySem.W.kla_makeFunctionHit (mg := X.mg) (c := c) (P := P) (ps := ps) (closure_ok (hfree I.ok)) I.ok.glob (I.mod.glob.keeps I.bk) hcode (TB.code.keeps I.bk) hP' ht hc bP fun ctv h' tk hx hsz => ?_
    have I1 : Inv X pins σ H { s with heap := h', toks := tk } := I.kept hx
    have nF : H h'.objs.size = none := I1.hok.fresh (Nat.le_refl _)
    have I2 := lam_laid (F := ⟨"<lambda>", X.env.qual ++ "<lambda>", params, [], scope, cloFrom X.env.cells scope.names [], c'⟩) (body := body) (pm := (X.mg "__name__").getD .none) (ctv := ctv) (t' := tk) I1
    have sm : ∀ b o, H b = some o → upd H h'.objs.size (LamO h'.objs.size ⟨"<lambda>", X.env.qual ++ "<lambda>", params, [], scope, cloFrom X.env.cells scope.names [], c'⟩ body) b = some o := fun b o q => by
      rw [upd_ne (ne_of_none q nF)]
      exact q
    exact ⟨.ref h'.objs.size, _, I2, rfl, h h'.objs.size c' _ (ExtN.of sm) (fun b q => upd_none q) (hT.ext sm) nF upd_same (sm _ _ hco)⟩
end
end Clo

set_option Elab.async false
set_option linter.all false
set_option maxRecDepth 100000
set_option maxHeartbeats 1000000
/-! defs that show data as texts: what stands around them shows nothing; the end of a law that does so -/
namespace Grd
open PySem PySem.Spec PyProof.Rows L2 LamX NdefX Clo
section
variable {X : Cx}
theorem call_repr (hg : X.A.guards = some []) (hu : X.A.units + 100 < cLine) : CallR X (.builtin "repr") (fun xs H Q => ∃ (a : Addr) (d : PyData), xs = [.ref a] ∧ Dp X.K H (.ref a) d ∧ d.showable = true ∧ d.hasDict = false ∧ d.depth ≤ 64 ∧ d.shown.length ≤ sizeLine ∧ Q (.str d.shown) H) := by
  intro pins s σ H xs us Q I r h
  obtain ⟨a, d, rfl, hd, h1, h2, h3, h4, q⟩ := h
  obtain ⟨u, rfl, rx⟩ := vals1 r
  cases (show u = Value.ref a from rx)
  obtain ⟨as, rd⟩ := Dp.reads I d (.ref a) (.ref a) hd rfl
  exact repr_of_reads' rd h1 (PyData.noDict_hsm h2) hg (by omega) (fun _ _ e => e) (fun h' u tk hk => ⟨.str d.shown, H, I.kept (t' := tk) hk, ⟨u, rfl⟩, q⟩) h4
end
structure FnG (P : Program) (w : World) (K : PySem.W.Frag) (mg : Str → Option Value) (base : Heap) (CX : CXT) (k : Nat) (f : Addr) (fd : FuncData) (ps : List Str) (sp : Sp) : Prop where
  len : ∀ vs H Q E, sp vs H Q E → vs.length = ps.length
  run : ∀ (A : Around) (outer : List Env) (s : Shared) (H : Hp) (args : Args) (us : List Value) (vs : List V) (Q : VK) (E : XK), Room k A → A.guards = some [] → Env0 P w K mg base A outer s H → BindsTo s fd args (ps.zip us) → Vals vs us → sp vs H Q E →
    codeAny (model P w) A (.call (.ref f) args) (CR CX outer P w H s Q E) s
section
variable {P : Program} {w : World} {K : PySem.W.Frag} {mg : Str → Option Value} {base : Heap} {k : Nat} {g : Addr} {gd : FuncData} {x qual : Str} {st : Stmt} {N ps : List Str} {sp : Sp}
theorem fng_of (F : L2.Fun K x qual st g gd) (S : FnScope N ps (defScope st)) (len : ∀ vs H Q E, sp vs H Q E → vs.length = ps.length)
    (hbody : ∀ (cdv : Value) (A : Around) (outer : List Env) (s : Shared) (H : Hp) (vs : List V) (Q : VK) (E : XK), Room k (A.deeper (envOfC qual (defScope st) s.heap.objs.size g cdv)) → (A.deeper (envOfC qual (defScope st) s.heap.objs.size g cdv)).guards = some [] → sp vs H Q E →
      ∃ t, PSs (cxOf CX0 P w K mg base N qual (defScope st) g cdv A outer s H E).nox (defBody st) t ∧ t { nx := fun _ H' => Q .non H', rt := Q } (start N vs) H) : FnG P w K mg base CX0 (k + 1) g gd ps sp := by
  obtain ⟨oc, od, kV, doc, pm, an, cdv, ct, osl, rfl, lk, hcd⟩ := F.ex
  constructor
  · exact len
  intro A outer s H args us vs Q E hr hg e0 hb r hsp
  refine run_ofS lk hcd S hr e0 hb r (len _ _ _ _ hsp) fun hr' => ?_
  obtain ⟨t, ht, hq⟩ := hbody cdv A outer s H vs Q E hr' hg hsp
  exact ⟨t, ht.nox, hq⟩
end
section
variable {X : Cx} {CX : CXT} {j k : Nat} {x : Str} {ps : List Str} {sp : Sp} {E : XK} {t : TA} {e : Expr} {es : List Expr} {p pos : Pos} {g : Addr} {gd : FuncData}
theorem pe_callG (G : FnG X.prog X.w X.K X.mg X.base CX k g gd ps sp) (hr : Room j X.A) (hk : k ≤ j) (hgd : X.A.guards = some [])
    (hg : Gl X x) (hm : X.mg x = some (.ref g)) (hkp : PySem.W.keepIn X.K (.ref g) = true) (hb : Binds X.K gd ps []) (hx : Passes CX X E) (ha : PA X (e :: es) t) (hdb : (x == ("__debug__" : Str)) = false := by decide)
    (he : starEach (e :: es) X.env = (false, eval e X.env) :: starEach es X.env := by rfl) (hpl : (backTo pos (starEach es X.env)).any (·.1) = false := by rfl) :
    PE X (.Call (.Name x p) (e :: es) [] pos) (tCall sp [] E t) := by
  constructor
  intro pins s σ H Q I h
  refine wpAny_Call_Name_kw (ld_glob I hg hm ?_ hdb)
  refine PySem.W.callWith_K (h₀ := X.base) I.ok.mod.kin hkp (thn (ha.run pos pins s σ H _ I h) fun us s2 z => ?_) he hpl
  obtain ⟨vs, H2, I2, r, q⟩ := z
  have q : sp vs H2 Q E := by
    have q' : sp (vs ++ []) H2 Q E := q
    rw [List.append_nil] at q'
    exact q'
  refine ⟨I2.kIn, ?_⟩
  have hl := G.len _ _ _ _ q
  have bt : BindsTo s2 gd ⟨us, []⟩ (ps.zip us) := by
    have b := hb s2 us I2.kIn (by rw [List.append_nil, ← r.length]; exact hl)
    rw [List.append_nil] at b
    exact b
  refine wpAny_call (codeAny_mono (G.run X.A X.stack s2 H2 ⟨us, []⟩ us vs Q E (hr.mono hk) hgd I2.env0 bt r q) fun r s' hq => ?_)
  cases r with
  | error e => exact hx pins σ H2 s2 e s' I2 hq
  | ok fl =>
    cases fl with
    | ret u => exact I2.after hq
    | next => exact hq.elim
    | brk => exact hq.elim
    | cont => exact hq.elim
end
end Grd

set_option Elab.async false
set_option linter.all false
set_option maxRecDepth 100000
set_option maxHeartbeats 1000000
namespace Dat
open PySem PySem.Spec PyProof.Rows L2
/-! ### rules of my own for the derivations -/
section
variable {X : Cx} {CX : CXT} {k : Nat} {f : Addr} {fd : FuncData} {ps ks : List Str} {sp : Sp} {E : XK} {x : Str} {p pos : Pos} {kws : List Keyword} {tk : TA} {g : List Value → List Value → List Value} {gV : List V → List V → List V}
/-- a call with keywords alone -/
theorem pe_callN0 (F : FnOk X.prog X.w X.K X.mg X.base CX k f fd ps sp) (hr : Room k X.A) (hg : Gl X x) (hm : X.mg x = some (.ref f)) (hk : PySem.W.keepIn X.K (.ref f) = true) (hb : KBn X.K fd ps 0 ks g gV) (hx : Passes CX X E)
    (hkw : PK X kws tk) (hall : (backToKw pos (keywordEach kws X.env)).all (·.1.isSome) = true := by rfl) (hks : (backToKw pos (keywordEach kws X.env)).filterMap (·.1) = ks := by rfl)
    (hdb : (x == ("__debug__" : Str)) = false := by decide)
    (hpl : ((backTo pos (starEach [] X.env)).any (·.1) || (backToKw pos (keywordEach kws X.env)).any (·.1.isNone)) = false := by rfl) :
    PE X (.Call (.Name x p) [] kws pos) (tCallN 0 ks.length sp gV E tNil tk) := by
  refine ⟨fun pins s σ H Q I h => ?_⟩
  refine wpAny_Call_Name_kw (ld_glob I hg hm ?_ hdb)
  refine PySem.W.callWith_KW0 (h₀ := X.base) I.ok.mod.kin hk hall ?_ hpl
  refine thn (hkw.run pos pins s σ H _ I h) fun ws s2 ⟨zs, H2, I2, rz, l1, l2, q2⟩ => ⟨I2.kIn, ?_⟩
  rw [hks]
  exact run_fnN F hr hb hx I2 .nil rz rfl l2 q2
end
theorem pe_tupleK {X : Cx} {K : PySem.W.Frag} [Tb K] {a : Expr} {ta : TE} {p pos : Pos} (hK : X.K = K) (hg : Gl X "tuple") (hm : X.mg "tuple" = none) (ha : PE X a ta) (na : starEach [a] X.env = (false, eval a X.env) :: starEach [] X.env := by rfl) :
    PE X (.Call (.Name "tuple" p) [a] [] pos) (tThen ta (kTup K)) := by
  subst hK
  exact pe_tupleOf hg hm ha na
/-- a statement that is never reached -/
theorem ps_dead {X : Cx} {st : Stmt} : PS X st (fun _ _ _ => False) := ⟨fun _ _ _ _ _ _ h => h.elim⟩
structure DefAt (K : PySem.W.Frag) (mg : Str → Option Value) (x : Str) (st : Stmt) (ps : List Str) (ds : List Value) (f : Addr) (fd : FuncData) : Prop where
  F : L2.Fun K x x st f fd
  g : mg x = some (.ref f)
  b : Binds K fd ps ds
theorem hu64 {A : Around} {k : Nat} (hr : Room k A) : A.units + 64 < cLine := by
  have := hr.un
  omega
theorem hu100 {A : Around} {k : Nat} (hr : Room k A) : A.units + 100 < cLine := by
  have := hr.un
  omega
theorem bt_len : bootBuiltins "len" = some (.builtin "len") := by decide +kernel
theorem bt_isinstance : bootBuiltins "isinstance" = some (.builtin "isinstance") := by decide +kernel
theorem bt_abs : bootBuiltins "abs" = some (.builtin "abs") := by decide +kernel
theorem bt_all : bootBuiltins "all" = some (.builtin "all") := by decide +kernel
theorem bt_any : bootBuiltins "any" = some (.builtin "any") := by decide +kernel
theorem bt_sum : bootBuiltins "sum" = some (.builtin "sum") := by decide +kernel
theorem bt_max : bootBuiltins "max" = some (.builtin "max") := by decide +kernel
theorem bt_min : bootBuiltins "min" = some (.builtin "min") := by decide +kernel
theorem bt_sorted : bootBuiltins "sorted" = some (.builtin "sorted") := by decide +kernel
theorem bt_repr : bootBuiltins "repr" = some (.builtin "repr") := by decide +kernel
theorem bt_int : bootBuiltins "int" = some (.type "int") := by decide +kernel
theorem bt_bool : bootBuiltins "bool" = some (.type "bool") := by decide +kernel
theorem bt_tuple : bootBuiltins "tuple" = some (.type "tuple") := by decide +kernel
theorem bt_list : bootBuiltins "list" = some (.type "list") := by decide +kernel
theorem bt_str : bootBuiltins "str" = some (.type "str") := by decide +kernel
theorem bt_set : bootBuiltins "set" = some (.type "set") := by decide +kernel
theorem bt_range : bootBuiltins "range" = some (.type "range") := by decide +kernel
theorem bt_enumerate : bootBuiltins "enumerate" = some (.type "enumerate") := by decide +kernel
theorem bt_zip : bootBuiltins "zip" = some (.type "zip") := by decide +kernel
/-! ### defs that show data as texts -/
section
variable {P : Program} {w : World} {K : PySem.W.Frag} [Tb K] {mg : Str → Option Value} {base : Heap}
theorem fngA_ok {x qual : Str} {st : Stmt} {f : Addr} {fd : FuncData} {N ps : List Str} {k : Nat} {sp : ASp} (F : L2.Fun K x qual st f fd) (S : FnScope N ps (defScope st)) (len : ∀ as Ω P, sp as Ω P → as.length = ps.length)
    (hbody : ∀ (cdv : Value) (A : Around) (outer : List Env) (s : Shared) (H : Hp) (E : XK), Room k (A.deeper (envOfC qual (defScope st) s.heap.objs.size f cdv)) → (A.deeper (envOfC qual (defScope st) s.heap.objs.size f cdv)).guards = some [] →
      ∃ t, PSs (cxOf CX0 P w K mg base N qual (defScope st) f cdv A outer s H E).nox (defBody st) t ∧ ∀ as Ω P, sp as Ω P → SW K t (as.map some ++ List.replicate (N.length - as.length) none) Ω { nx := fun _ Ω' => P (.dat .none) Ω', rt := P }) :
    Grd.FnG P w K mg base CX0 (k + 1) f fd ps (spA K sp) := by
  refine Grd.fng_of F S (spA_len len) fun cdv A outer s H vs Q E hr hg h => ?_
  obtain ⟨t, ht, hs⟩ := hbody cdv A outer s H E hr hg
  obtain ⟨F0, Ω, as, P, k0, va, h, hq⟩ := h
  refine ⟨t, ht, hs as Ω P h F0 (L2.start N vs) H _ ⟨k0.fr, k0.st, ?_, k0.tb, k0.ob⟩ ⟨fun Γ' σ' Ω' H' hp k' => hq _ _ _ _ hp k'.bare (.dat .non), fun a v Ω' H' hp k' hv => hq _ _ _ _ hp k' hv, fun _ _ _ _ z => z.elim, fun _ _ _ _ z => z.elim⟩⟩
  unfold L2.start
  rw [va.length]
  exact Slots.start (N := N) va _
end
end Dat

set_option Elab.async false
set_option linter.all false
set_option maxRecDepth 100000
set_option maxHeartbeats 1000000
namespace PySem.SeqAt
open AutoSeq1 (wpAny_loadPart')
open MeetsSeq
theorem str_eq_declines_dict (b : Str) (u : Tok) (l : Addr) (es : Array DictEntry) (n : Nat) (dd : Option Addr) (sl : Array (Option Value)) :
    Meets (Builtin.«str.__eq__» ⟨[.str b u, .ref l], []⟩) (fun _ R s => s.heap.get? l = some { cls := .type "dict", dict := dd, data := .dict es n, slots := sl } ∧ R (.ok (.ret .notImplemented)) s) :=
  .of_wp fun prog w A R s h => by obtain ⟨hp, g, d, tk, os⟩ := s; obtain ⟨hl, h⟩ := h; wp_walk using wpAny_loadPart' hl, wpAny_load hl; exact ⟨_, rfl, h⟩
theorem dict_eq_declines_str (l : Addr) (es : Array DictEntry) (n : Nat) (dd : Option Addr) (sl : Array (Option Value)) (b : Str) (u : Tok) :
    Meets (Builtin.«dict.__eq__» ⟨[.ref l, .str b u], []⟩) (fun _ R s => s.heap.get? l = some { cls := .type "dict", dict := dd, data := .dict es n, slots := sl } ∧ R (.ok (.ret .notImplemented)) s) :=
  .of_wp fun prog w A R s h => by obtain ⟨hp, g, d, tk, os⟩ := s; obtain ⟨hl, h⟩ := h; have f1 := F.sub_str_dict; wp_walk using wpAny_loadPart' hl, wpAny_load hl; exact ⟨_, rfl, h⟩
section
variable {A : Around} {s : Shared}
theorem EqAt.str_dict {l : Addr} {o : Obj} {es : Array DictEntry} {n : Nat} (b : Str) (u : Tok) (h0 : s.heap.get? l = some o) (hc : o.cls = .type "dict") (hd : o.data = .dict es n) (hu : A.units < cLine) : EqAt A s (.str b u) (.ref l) false := fun prog w E Q h => by
  obtain ⟨cls, dd, data, sl⟩ := o
  simp only at hc hd
  subst hc hd
  unfold eqBool
  refine wpAny_holding ?_
  refine wpAny_ite_split (fun hab => absurd (eq_of_beq hab) nofun) (fun _ => ?_)
  refine wpAny_bind (rc_eq_decline_or (k := false) (typeIs_str s b u) ⟨_, h0, rfl⟩ (by decide) F.sub_dict_str F.slot_str_eq F.slot_dict_eq_refl
    (fun _ hq => call_meets F.slot_str_eq (typeIs_str s b u) F.entry_str_eq (F.args_str_eq_2 _ _) (str_eq_declines_dict b u l es n dd sl) ⟨h0, hq⟩)
    (fun _ hq => call_meets F.slot_dict_eq_refl ⟨_, h0, rfl⟩ F.entry_dict_eq (F.args_dict_eq_2 _ _) (dict_eq_declines_str l es n dd sl b u) ⟨h0, hq⟩)
    (fun _ hq => wpAny_of_eq (rfl : isSame (.str b u) (.ref l) = pure false) hq) (.inr hu) (wpAny_truthy_bool h))
end
end PySem.SeqAt
namespace Dat
open PySem PySem.Spec PyProof.Rows L2
def isStr (w : Str) : PyData → Bool
  | .str x => w == x
  | _ => false
section
variable {X : Cx} {pins : List (Addr × Obj)} {σ : L2.St} {H : Hp} {s : Shared}
theorem dict_at (I : Inv X pins σ H s) {a : Addr} (h : H a = some (.dK [])) : (a == sysModules) = false ∧ ∃ o n, s.heap.get? a = some o ∧ o.cls = .type "dict" ∧ o.data = .dict #[] n := by
  obtain ⟨_, h1, vs, kv, o, es, ep, e1, e2, e3, e4⟩ := dk_of I.hok h
  have hv : vs = [] := by
    cases kv
    rfl
  subst hv
  refine ⟨h1, o, ep, e1, e2.1, ?_⟩
  rw [e3]
  have : es.size = 0 := by
    have := e4.2.1.length
    simpa using this
  rw [Array.eq_empty_of_size_eq_zero this]
theorem str_at (I : Inv X pins σ H s) {A : Around} (hu : A.units < cLine) {v : V} {u : Value} {d : PyData} (h : Dq X.K H v d) (r : RelV v u) (w : Str) (t : Tok) : SeqAt.EqAt A s (.str w t) u (isStr w d) := by
  cases h with
  | non => cases r; exact SeqAt.EqAt.str_none w t
  | bl b => cases r; exact SeqAt.EqAt.str_bool w t b
  | int i => obtain ⟨t', rfl⟩ := r; exact SeqAt.EqAt.str_int w t i t'
  | str x => obtain ⟨t', rfl⟩ := r; exact SeqAt.EqAt.str_str w t x t'
  | lst h _ =>
    cases r
    obtain ⟨its, rv, p, _⟩ := I.list (SqL.of h)
    exact SeqAt.EqAt.str_list w t p.isList hu
  | tup h _ =>
    cases r
    obtain ⟨its, rv, p, _⟩ := I.tuple h
    exact SeqAt.EqAt.str_tuple w t p hu
  | dct h =>
    cases r
    obtain ⟨_, o, n, e1, e2, e3⟩ := dict_at I h
    exact SeqAt.EqAt.str_dict w t e1 e2 e3 hu
def isStrU (d : PyData) (u : Value) : Bool := match u with
  | .str w _ => isStr w d
  | _ => false
theorem any_str {d : PyData} : ∀ {ws : List Str} {us : List Value}, Vals (ws.map V.str) us → us.any (isStrU d) = ws.any fun w => isStr w d
  | [], _, h => by cases h; rfl
  | w :: r, _, h => by
    rw [List.map_cons] at h
    cases h with | cons r1 r2 =>
      obtain ⟨t, rfl⟩ := r1
      rw [List.any_cons, List.any_cons, any_str r2]
      rfl
theorem mem_str (I : Inv X pins σ H s) {A : Around} (hu : A.units < cLine) {v : V} {u : Value} {d : PyData} (h : Dq X.K H v d) (r : RelV v u) : ∀ {ws : List Str} {us : List Value}, Vals (ws.map V.str) us → ∀ y ∈ us, SeqAt.EqAt A s y u (isStrU d y)
  | [], _, g, y, hy => by cases g; cases hy
  | w :: ws, _, g, y, hy => by
    rw [List.map_cons] at g
    cases g with | cons r1 r2 =>
      obtain ⟨t, rfl⟩ := r1
      rcases List.mem_cons.mp hy with rfl | hy
      · exact str_at I hu h r w t
      · exact mem_str I hu h r r2 y hy
/-- any datum in a tuple of texts -/
def rInStr (K : PySem.W.Frag) : R2 := fun x y H Q => ∃ (p : Addr) (ws : List Str) (d : PyData), y = .ref p ∧ SqT K H p (ws.map V.str) ∧ Dq K H x d ∧ Q (.bl (ws.any fun w => isStr w d)) H
theorem op_inStr {X : Cx} (hu : X.A.units + 64 < cLine) : OpR X (compareOp .In) (rInStr X.K) := by
  intro pins s σ H x y v u Q I rx ry h
  obtain ⟨p, ws, d, rfl, hq, hd, q⟩ := h
  cases ry
  obtain ⟨its, r, tp, hz⟩ := I.tuple hq
  refine SeqAt.in_tupleAt (isStrU d) (show s.heap.IsTuple p its.toArray from tp) (fun z hz' => mem_str I (by show X.A.units + 1 < cLine; omega) hd rx r z (by simpa using hz')) ⟨.bl _, H, I, rfl, ?_⟩
  rw [show its.toArray.any (isStrU d) = its.any (isStrU d) by simp, any_str r]
  exact q
theorem r_inStr {K : PySem.W.Frag} [Tb K] {Ω : AH} {P : Av → AH → Prop} {d : PyData} {ws : List Str} (h : P (.dat (.bool (ws.any fun w => isStr w d))) Ω) : R2W K (rInStr K) (.dat d) (.dat (.tuple (ws.map PyData.str))) Ω P := fun F H x y Q k hx hy q => by
  cases hx with | dat hx => cases hy with | dat hy => cases hy with | tup hs g =>
    have e : ∀ {ws : List Str} {vs : List V}, DqAll K (Fz Ω H) vs (ws.map PyData.str) → vs = ws.map V.str := by
      intro ws
      induction ws with
      | nil => intro vs g; cases g; rfl
      | cons w r ih =>
        intro vs g
        rw [List.map_cons] at g
        cases g with | cons h g =>
          cases h
          rw [ih g, List.map_cons]
    rw [e g] at hs
    exact ⟨_, ws, d, rfl, sqT_same Fz_le hs, hx.same Fz_le, q _ _ _ _ h k (.dat (.bl _))⟩
/-! ### repr -/
mutual
def noList : PyData → Bool
  | .list _ => false
  | .tuple ds => noListAll ds
  | _ => true
def noListAll : List PyData → Bool
  | [] => true
  | d :: r => noList d && noListAll r
end
mutual
theorem Dq.reads (I : Inv X pins σ H s) : ∀ (d : PyData) (v : V) (u : Value), Dq X.K H v d → RelV v u → ∃ as, Reads s.heap u d as ∧ (noList d = true → sysModules ∉ as)
  | .none, _, _, h, r => by
    cases h
    cases r
    exact ⟨_, Reads.none, fun _ => nofun⟩
  | .bool b, _, _, h, r => by
    cases h
    cases r
    exact ⟨_, Reads.bool b, fun _ => nofun⟩
  | .int i, _, _, h, r => by
    cases h
    obtain ⟨t, rfl⟩ := r
    exact ⟨_, Reads.int i t, fun _ => nofun⟩
  | .str x, _, _, h, r => by
    cases h
    obtain ⟨t, rfl⟩ := r
    exact ⟨_, Reads.str x t, fun _ => nofun⟩
  | .list ds, _, _, h, r => by
    cases h with
    | lst hs ha =>
      cases r
      obtain ⟨its, rv, ⟨o, n, ho, hc, _, hd⟩, _⟩ := I.list (SqL.of hs)
      obtain ⟨as, hr, _⟩ := Dq.readsAll I ds _ its ha rv
      exact ⟨_, Reads.list ho hc hd hr, fun z => by simp [noList] at z⟩
  | .tuple ds, _, _, h, r => by
    cases h with
    | tup hs ha =>
      cases r
      obtain ⟨its, rv, ⟨o, ho, hc, n, hd⟩, _⟩ := I.tuple hs
      obtain ⟨as, hr, hn⟩ := Dq.readsAll I ds _ its ha rv
      exact ⟨_, Reads.tuple ho hc hd hr, fun z => hn (by simpa [noList] using z)⟩
  | .dict kvs, _, _, h, r => by
    cases h with
    | dct h =>
      cases r
      obtain ⟨h1, o, n, e1, e2, e3⟩ := dict_at I h
      refine ⟨_, Reads.dict (kvs := []) (as := []) (bs := []) e1 e2 e3 (by exact ReadsAll.nil) (by exact ReadsAll.nil), fun _ m => ?_⟩
      simp at m
      rw [m] at h1
      simp at h1
theorem Dq.readsAll (I : Inv X pins σ H s) : ∀ (ds : List PyData) (vs : List V) (us : List Value), DqAll X.K H vs ds → Vals vs us → ∃ as, ReadsAll s.heap us ds as ∧ (noListAll ds = true → sysModules ∉ as)
  | [], _, _, h, r => by
    cases h
    cases r
    exact ⟨_, ReadsAll.nil, fun _ => nofun⟩
  | d :: ds, _, _, h, r => by
    cases h with
    | cons h1 h2 =>
      cases r with
      | cons r1 r2 =>
        obtain ⟨as, q1, n1⟩ := Dq.reads I d _ _ h1 r1
        obtain ⟨bs, q2, n2⟩ := Dq.readsAll I ds _ _ h2 r2
        refine ⟨_, ReadsAll.cons q1 q2, fun z => ?_⟩
        rw [noListAll, Bool.and_eq_true] at z
        intro m
        rcases List.mem_append.mp m with m | m
        · exact n1 z.1 m
        · exact n2 z.2 m
end
end
def Shown (d : PyData) : Prop := d.showable = true ∧ (d.hasDict = true → noList d = true) ∧ d.depth ≤ 64 ∧ d.shown.length ≤ sizeLine
def rReprQ (K : PySem.W.Frag) : List V → Hp → VK → Prop := fun xs H Q => ∃ (v : V) (d : PyData), xs = [v] ∧ Dq K H v d ∧ Shown d ∧ Q (.str d.shown) H
theorem cl_repr {X : Cx} (hg : X.A.guards = some []) (hu : X.A.units + 100 < cLine) : CallR X (.builtin "repr") (rReprQ X.K) := by
  intro pins s σ H xs us Q I r h
  obtain ⟨v, d, rfl, hd, ⟨h1, h2, h3, h4⟩, q⟩ := h
  obtain ⟨u, rfl, rx⟩ := vals1 r
  have ref : ∀ a, v = .ref a → u = .ref a → wpAny (model X.prog X.w) X.A (call (.builtin "repr") [u]) (EP X pins σ Q) X.xe s := fun a ev eu => by
    subst ev eu
    obtain ⟨as, rd, hn⟩ := Dq.reads I d (.ref a) (.ref a) hd rfl
    exact repr_of_reads' rd h1 (fun z => hn (h2 z)) hg (by omega) (fun _ _ e => e) (fun h' u tk hk => ⟨.str d.shown, H, I.kept (t' := tk) hk, ⟨u, rfl⟩, q⟩) h4
  cases hd with
  | non =>
    cases rx
    exact PySem.P.repr_of_none ⟨.str "None", H, I.tok _, ⟨_, rfl⟩, by simpa [PyData.shown] using q⟩
  | bl b =>
    cases rx
    exact PySem.P.repr_of_bool ⟨.str (if b then "True" else "False"), H, I.tok _, ⟨_, rfl⟩, by simpa [PyData.shown] using q⟩
  | int i =>
    obtain ⟨t, rfl⟩ := rx
    exact PySem.P.repr_of_int (by simpa [PyData.showable] using h1) ⟨.str (toString i), H, I.tok _, ⟨_, rfl⟩, by simpa [PyData.shown] using q⟩
  | str x =>
    obtain ⟨t, rfl⟩ := rx
    exact PySem.P.repr_of_str ⟨.str (reprText x), H, I.tok _, ⟨_, rfl⟩, by simpa [PyData.shown] using q⟩ (by simpa [PyData.shown] using h4)
  | lst h g => exact ref _ rfl rx
  | tup h g => exact ref _ rfl rx
  | dct h => exact ref _ rfl rx
theorem c_repr {K : PySem.W.Frag} [Tb K] {Ω : AH} {P : Av → AH → Prop} {d : PyData} (s : Shown d) (h : P (.dat (.str d.shown)) Ω) : RCW K (rReprQ K) [.dat d] Ω P := fun F H xs Q k hx q => by
  cases hx with | cons hx g => cases g; cases hx with | dat hx =>
    exact ⟨_, d, rfl, hx.same Fz_le, s, q _ _ _ _ h k (.dat (.str _))⟩
/-! ### short words -/
inductive Dats : List Av → List PyData → Prop
  | nil : Dats [] []
  | cons {d : PyData} {as : List Av} {ds : List PyData} (h : Dats as ds) : Dats (.dat d :: as) (d :: ds)
theorem Dats.eq {as : List Av} {ds : List PyData} (h : Dats as ds) : as = ds.map .dat := by
  induction h with
  | nil => rfl
  | cons h ih => rw [ih, List.map_cons]
theorem dats_map {α : Type} {f : α → PyData} : ∀ {xs : List α}, Dats (xs.map fun x => .dat (f x)) (xs.map f)
  | [] => .nil
  | _ :: _ => .cons dats_map
section
variable {K : PySem.W.Frag} [Tb K] {Γ : List (Option Av)} {Ω : AH} {P : Av → AH → Prop} {te : TE} {tl : TA}
theorem e_tupD (h : AW K tl Γ Ω fun as Ω1 => ∃ ds, Dats as ds ∧ Nat.ble ds.length 100000 = true ∧ P (.dat (.tuple ds)) Ω1) : EW K (tTup tl) Γ Ω P :=
  e_tup fun F σ H Q k q => h F σ H Q k fun as vs Ω1 H1 ⟨ds, e, l, hp⟩ => q as vs Ω1 H1 ⟨ds, e.eq, Nat.le_of_ble_eq_true l, hp⟩
theorem e_lstD (h : AW K tl Γ Ω fun as Ω1 => ∃ ds, Dats as ds ∧ Nat.ble ds.length 100000 = true ∧ P (.dat (.list ds)) Ω1) : EW K (tLst tl) Γ Ω P :=
  e_lst fun F σ H Q k q => h F σ H Q k fun as vs Ω1 H1 ⟨ds, e, l, hp⟩ => q as vs Ω1 H1 ⟨ds, e.eq, Nat.le_of_ble_eq_true l, hp⟩
theorem c_allM {α : Type} {xs : List α} {p : α → Bool} (h : P (.dat (.bool (xs.all p))) Ω) : RCW K (rAll K) [.dat (.list (xs.map fun x => .bool (p x)))] Ω P := by
  have e : xs.map (fun x => PyData.bool (p x)) = (xs.map p).map PyData.bool := by
    rw [List.map_map]
    rfl
  rw [e]
  refine c_all ?_
  rw [List.all_map]
  exact h
theorem c_anyM {α : Type} {xs : List α} {p : α → Bool} (h : P (.dat (.bool (xs.any p))) Ω) : RCW K (rAny K) [.dat (.list (xs.map fun x => .bool (p x)))] Ω P := by
  have e : xs.map (fun x => PyData.bool (p x)) = (xs.map p).map PyData.bool := by
    rw [List.map_map]
    rfl
  rw [e]
  refine c_any ?_
  rw [List.any_map]
  exact h
theorem atI_nat' {α : Type} {xs : List α} {i : Nat} {a : α} (h : xs[i]? = some a) : atI xs (i : Int) = some a := atI_nat h
/-- a def of one datum, answered by a truth -/
abbrev spB (f : PyData → Bool) : ASp := fun as Ω P => ∃ d, as = [.dat d] ∧ P (.dat (.bool (f d))) Ω
end
end Dat

set_option Elab.async false
set_option linter.all false
set_option maxRecDepth 100000
set_option maxHeartbeats 1000000
namespace Dat
open PySem PySem.Spec PyProof.Rows L2
/-! ### the rules with the written part given outright -/
section
variable {X : Cx} {K : PySem.W.Frag} [Tb K]
theorem ixT (hK : X.K = K) : IxR X (rIxT K) := by subst hK; exact ix_tup
theorem ixL (hK : X.K = K) : IxR X (rIxL K) := by subst hK; exact ix_list
theorem slT (hK : X.K = K) : SlR X (rSlA K) := by subst hK; exact sl_tupA
theorem slL (hK : X.K = K) : SlR X (rSlL K) := by subst hK; exact sl_list
theorem catT (hK : X.K = K) : OpR X (binaryOp .Add) (rCatA K) := by subst hK; exact op_catA
theorem inQ (hK : X.K = K) : OpR X (compareOp .In) (rIn K false) := by subst hK; exact op_in_seq
theorem niQ (hK : X.K = K) : OpR X (compareOp .NotIn) (rIn K true) := by subst hK; exact op_notIn_seq
theorem inStrQ (hK : X.K = K) (hu : X.A.units + 64 < cLine) : OpR X (compareOp .In) (rInStr K) := by subst hK; exact op_inStr hu
theorem eqDQ (hK : X.K = K) (hu : X.A.units + 64 < cLine) : OpR X (compareOp .Eq) (rEqD K) := by subst hK; exact op_eqD hu
theorem neDQ (hK : X.K = K) (hu : X.A.units + 64 < cLine) : OpR X (compareOp .NotEq) (rNeD K) := by subst hK; exact op_neD hu
theorem isiQ (hK : X.K = K) : CallR X (.builtin "isinstance") (rIsi K) := by subst hK; exact call_isi
theorem lenQ (hK : X.K = K) : CallR X (.builtin "len") (rLenQ K) := by subst hK; exact cl_len
theorem listQ (hK : X.K = K) : CallR X (.type "list") (rListQ K) := by subst hK; exact cl_list
theorem allQ (hK : X.K = K) (hc : X.calm = true) : CallR X (.builtin "all") (rAll K) := by subst hK; exact cr_all hc
theorem anyQ (hK : X.K = K) (hc : X.calm = true) : CallR X (.builtin "any") (rAny K) := by subst hK; exact cr_any hc
theorem sumQ (hK : X.K = K) (hc : X.calm = true) : CallR X (.builtin "sum") (rSum K) := by subst hK; exact cr_sum hc
theorem maxQ (hK : X.K = K) (hc : X.calm = true) : CallR X (.builtin "max") (rMax K) := by subst hK; exact cr_max hc
theorem minQ (hK : X.K = K) (hc : X.calm = true) : CallR X (.builtin "min") (rMin K) := by subst hK; exact cr_min hc
theorem sortedQ (hK : X.K = K) : CallR X (.builtin "sorted") (rSorted K) := by subst hK; exact cr_sorted
theorem reprQ (hK : X.K = K) (hg : X.A.guards = some []) (hu : X.A.units + 100 < cLine) : CallR X (.builtin "repr") (rReprQ K) := by subst hK; exact cl_repr hg hu
theorem piT {tg l : Expr} {tl : TE} (hK : X.K = K) (hl : PE X l tl) : PI X tg l (iTup K tl) := by subst hK; exact pi_tup hl
theorem piL {tg l : Expr} {tl : TE} (hK : X.K = K) (hl : PE X l tl) : PI X tg l (iList K tl) := by subst hK; exact pi_list hl
theorem pgT {es : List Expr} {k : Nat} {t : TGs} {n : Nat} {pos : Pos} (hK : X.K = K) (hc : X.calm = true) (h : PGs X es t)
    (hn : (assignEach es X.env).length = n := by rfl) (hst : (assignEach es X.env).findIdx? (·.1) = none := by rfl) : PG X (.Tuple es k pos) (gTup K n t) := by subst hK; exact pg_tup hc h hn hst
theorem appQ {o e : Expr} {to : TE} {t : TA} {apos cpos : Pos} (hK : X.K = K) (ho : PE X o to) (ha : PA X [e] t)
    (hbase : attributeBase o "append" X.env (eval o X.env) = eval o X.env := by rfl)
    (hfew : ((backTo cpos (starEach [e] X.env)).all (fun x => !x.1) && (backToKw cpos (keywordEach [] X.env)).all (fun x => x.1.isSome)
      && decide ([e].length + ([] : List Keyword).length + (if ([] : List Keyword).isEmpty then 0 else 1) < 30)) = true := by rfl)
    (hline : (apos.endLine == cpos.line) = true := by rfl) (hs : starEach [e] X.env = (false, eval e X.env) :: starEach [] X.env := by rfl) (hplain : (backTo cpos (starEach [] X.env)).any (·.1) = false := by rfl) :
    PE X (.Call (.Attribute o "append" apos) [e] [] cpos) (tBM K "list" rAppend to t) := by
  subst hK
  exact pe_bm PySem.F.plainAttrs_list PySem.F.slot_list_append PySem.F.type_list_append mt_append ho ha hbase hfew hline hs hplain
theorem zipQ {e e2 : Expr} {ta : TA} {p pos tpos : Pos} {elts : List Expr} {kk : Nat} (hK : X.K = K) (hg : Gl X "zip") (hm : X.mg "zip" = none) (ha : PA X [e, e2] ta)
    (hs : starEach [e, e2] X.env = (false, eval e X.env) :: starEach [e2] X.env := by rfl) (hpl : (backTo pos (starEach [e2] X.env)).any (·.1) = false := by rfl) :
    PI X (.Tuple elts kk tpos) (.Call (.Name "zip" p) [e, e2] [] pos) (RZ.iZipA K ta) := by
  subst hK
  exact RZ.pi_zipA hg hm ha hs hpl
theorem enumQ {e : Expr} {ta : TA} {p pos tpos : Pos} {elts : List Expr} {kk : Nat} (hK : X.K = K) (hg : Gl X "enumerate") (hm : X.mg "enumerate" = none) (ha : PA X [e] ta) (hs : starEach [e] X.env = [(false, eval e X.env)] := by rfl) :
    PI X (.Tuple elts kk tpos) (.Call (.Name "enumerate" p) [e] [] pos) (iEnum K ta) := by
  subst hK
  exact pi_enum hg hm ha hs
end
/-! ### truths, one after another -/
abbrev IsB (b : Bool) (Ω : AH) : Av → AH → Prop := fun a Ω' => a = .dat (.bool b) ∧ Ω' = Ω
abbrev IsT (b : Bool) (Ω : AH) : Bool → AH → Prop := fun a Ω' => a = b ∧ Ω' = Ω
section
variable {K : PySem.W.Frag} [Tb K] {Γ : List (Option Av)} {Ω : AH} {P : Av → AH → Prop} {ta tb : TE} {tt tu : TT} {b1 b2 b : Bool}
theorem e_andB (h1 : EW K ta Γ Ω (IsB b1 Ω)) (h2 : b1 = true → EW K tb Γ Ω (IsB b2 Ω)) : EW K (tAndV ta tb) Γ Ω (IsB (b1 && b2) Ω) :=
  e_andV (h1.mono fun a Ω' ⟨e, eo⟩ => ⟨b1, e, fun z => by subst eo; rw [z, Bool.true_and]; exact h2 z, fun z => by rw [z, Bool.false_and]; exact ⟨rfl, eo⟩⟩)
theorem e_orB (h1 : EW K ta Γ Ω (IsB b1 Ω)) (h2 : b1 = false → EW K tb Γ Ω (IsB b2 Ω)) : EW K (tOrV ta tb) Γ Ω (IsB (b1 || b2) Ω) :=
  e_orV (h1.mono fun a Ω' ⟨e, eo⟩ => ⟨b1, e, fun z => by rw [z, Bool.true_or]; exact ⟨rfl, eo⟩, fun z => by subst eo; rw [z, Bool.false_or]; exact h2 z⟩)
theorem e_notB (h1 : EW K ta Γ Ω (IsB b1 Ω)) : EW K (tNotV ta) Γ Ω (IsB (!b1) Ω) := e_notV (h1.mono fun a Ω' ⟨e, eo⟩ => ⟨b1, e, rfl, eo⟩)
theorem TW.mono {P P' : Bool → AH → Prop} (h : TW K tt Γ Ω P) (f : ∀ b Ω', P b Ω' → P' b Ω') : TW K tt Γ Ω P' := fun F σ H Q k q => h F σ H Q k fun b Ω' H' p => q b Ω' H' (f b Ω' p)
theorem t_andB (h1 : TW K tt Γ Ω (IsT b1 Ω)) (h2 : b1 = true → TW K tu Γ Ω (IsT b2 Ω)) : TW K (tAnd tt tu) Γ Ω (IsT (b1 && b2) Ω) :=
  t_and (h1.mono fun a Ω' ⟨e, eo⟩ => ⟨fun z => by subst eo; rw [← e, z, Bool.true_and]; exact h2 (e.symm.trans z), fun z => ⟨by rw [← e, z, Bool.false_and], eo⟩⟩)
theorem t_orB (h1 : TW K tt Γ Ω (IsT b1 Ω)) (h2 : b1 = false → TW K tu Γ Ω (IsT b2 Ω)) : TW K (tOr tt tu) Γ Ω (IsT (b1 || b2) Ω) :=
  t_or (h1.mono fun a Ω' ⟨e, eo⟩ => ⟨fun z => ⟨by rw [← e, z, Bool.true_or], eo⟩, fun z => by subst eo; rw [← e, z, Bool.false_or]; exact h2 (e.symm.trans z)⟩)
theorem t_notB (h1 : TW K tt Γ Ω (IsT b1 Ω)) : TW K (tNot tt) Γ Ω (IsT (!b1) Ω) := t_not (h1.mono fun a Ω' ⟨e, eo⟩ => ⟨by rw [e], eo⟩)
theorem t_ofB (h : EW K ta Γ Ω (IsB b Ω)) : TW K (tB ta) Γ Ω (IsT b Ω) := t_B (h.mono fun a Ω' ⟨e, eo⟩ => ⟨b, e, rfl, eo⟩)
theorem t_ofC (h : EW K ta Γ Ω (IsB b Ω)) : TW K (tTest ta) Γ Ω (IsT b Ω) := t_test (h.mono fun a Ω' ⟨e, eo⟩ => ⟨b, e, rfl, eo⟩)
theorem s_retB {E : EndA} (h : EW K ta Γ Ω (IsB b Ω)) (q : E.rt (.dat (.bool b)) Ω) : SW K (tRet ta) Γ Ω E := s_ret (h.mono fun a Ω' ⟨e, eo⟩ => by rw [e, eo]; exact q)
theorem s_ifB {E : EndA} {t u : TS} (h : TW K tt Γ Ω (IsT b Ω)) (h1 : b = true → SW K t Γ Ω E) (h2 : b = false → SW K u Γ Ω E) : SW K (tIfS tt t u) Γ Ω E :=
  s_if (h.mono fun a Ω' ⟨e, eo⟩ => by subst e eo; exact ⟨h1, h2⟩)
end
end Dat

set_option Elab.async false
set_option linter.all false
set_option maxRecDepth 100000
set_option maxHeartbeats 3200000
/-! set of a list of ints, sorted(set(list)) -/
namespace SetL
open PySem PySem.Spec PyProof.Rows L2
/-- what a set holds that was just made -/
abbrev mtS (w : World) : Obj := { cls := .type "set", dict := none, data := .set #[] 0 (.fresh 0 0 (!w.params.followText "set-order")) }
section
variable {P : Program} {w : World} {A : Around} {E : Value → Shared → Prop} {s : Shared}
theorem set_of_list {l : Addr} {vs : Array Value} (ks : List Int) {Q : Value → Shared → Prop} (nh : A.handled = none) (pl : s.heap.IsList l vs) (ia : IntsAre vs.toList ks) (bd : ks.length + 1 < scanBound)
    (fin : ∀ (hp2 : Heap) (tk2 c : Nat), SetR w hp2 s.heap.objs.size (fun j => decide (j ∈ ks)) c → c ≤ ks.length → (∀ b o, s.heap.get? b = some o → hp2.get? b = some o) → Q (.ref s.heap.objs.size) { s with heap := hp2, toks := tk2 }) :
    wpAny (model P w) A (call (.type "set") [.ref l]) Q E s := by
  have sz : vs.size = ks.length := by have := IntsAre.length ia; rwa [Array.length_toList] at this
  obtain ⟨mc, mtl, mro⟩ := F.called_set.mro; have mde := F.called_set.made; have sbc := F.called_set.sub
  refine wpAny_call (codeAny_of_tree ?_); show wpAny _ _ (callAny (.type "set") _) _ _ _
  refine wpAny_pure ⟨Code.quiet_builtin _ (by decide +kernel), codeAny_builtin F.entry_type_call ?_⟩; rw [Around.under_plain (weight_type_call_type "set" [.ref l] []) rfl]
  have nt := F.called_set.notType; have cc := F.called_set.canCreate; have tc := F.typeCall_set_1 (.ref l)
  repeat (any_goals (first | assumption | wp_step))
  refine codeAny_mono (code_set_led1 (.ref l) (E := E) (Q₁ := fun x sx => x = .ref s.heap.objs.size ∧ sx = { s with heap := s.heap.push (mtS w) }) ⟨rfl, rfl⟩) fun r1 sr hr1 => ?_
  cases r1 with
  | error z => exact hr1
  | ok fl1 =>
    cases fl1 with
    | ret x =>
      obtain ⟨rfl, rfl⟩ := hr1
      have gS : (s.heap.push (mtS w)).get? s.heap.objs.size = some (mtS w) := Heap.get?_push_size _ rfl
      have tyS : Shared.TypeIs { s with heap := s.heap.push (mtS w) } (.ref s.heap.objs.size) "set" := ⟨_, gS, rfl⟩
      have il := F.called_set.init.lookup; have ib := F.called_set.init.bind (.ref s.heap.objs.size)
      repeat (any_goals (first | assumption | wp_step))
      refine codeAny_mono (codeAny_call_builtin (R := wants (fun x sx => x = .none ∧ ∃ hp2 tk2 c, sx = { s with heap := hp2, toks := tk2 } ∧ SetR w hp2 s.heap.objs.size (fun j => decide (j ∈ ks)) c ∧ c ≤ ks.length ∧
          (∀ b o, s.heap.get? b = some o → hp2.get? b = some o)) E) F.called_set.init.plain F.entry_set_init (check_set_init_1 tyS ?_)) fun r2 sr2 hr2 => ?_
      · obtain ⟨⟨c0, d0, dt0, sl0⟩, ho, hc0, n0, hd0⟩ := pl
        simp only at hc0 hd0; subst hc0; subst hd0
        have ho2 : (s.heap.push (mtS w)).get? l = some { cls := .type "list", dict := d0, data := .seq vs n0, slots := sl0 } := Heap.get?_push_of_some _ ho
        have f1 := F.sub_list_set; have f2 := F.sub_list_frozenset; have f3 : (Value.type "list" == Value.type "dict") = false := by decide
        have pl2 : (s.heap.push (mtS w)).IsList l vs := ⟨_, ho2, rfl, n0, rfl⟩
        unfold Builtin.«set.__init__» noKeywords Builtin.Frozenset.updateFrom; generalize hIt : pyIter = It
        wp_walk
        subst hIt
        refine wpAny_pyIter_list pl2 (wpAny_bind (wpAny_runValue ?_))
        have lS : l < s.heap.objs.size := Heap.lt_size ho
        have nh3 : A.in1.in1.in1.handled = none := by simp [nh]
        have psz : (s.heap.push (mtS w)).objs.size = s.heap.objs.size + 1 := Heap.size_push ..
        have ne1 : l ≠ (s.heap.push (mtS w)).objs.size := by rw [psz]; exact Nat.ne_of_lt (Nat.lt_succ_of_lt lS)
        have ne2 : s.heap.objs.size ∉ [(s.heap.push (mtS w)).objs.size, l] := by rw [psz]; simp only [List.mem_cons, List.not_mem_nil, or_false, not_or]; exact ⟨Nat.ne_of_lt (Nat.lt_succ_self _), Nat.ne_of_gt lS⟩
        have val : ∀ (i : Nat) (v : Value), vs[i]? = some v → ∃ k t, ks[i]? = some k ∧ v = .int k t := fun i v hv => by
          have hi : i < ks.length := by rw [← sz]; exact (Array.getElem?_eq_some_iff.mp hv).1
          obtain ⟨t, e⟩ := PyProof.Rows.IntsAre.int_at ia i v (by rwa [Array.getElem?_toList])
          exact ⟨ks[i], t, List.getElem?_eq_getElem hi, by rw [e, List.getD_eq_getElem?_getD, List.getElem?_eq_getElem hi]; rfl⟩
        refine set_update_ints ((Walks.list nh3 _ l ne1 vs).toS) s.heap.objs.size ne2 ks sz bd val (vs.size - 0) 0 _ (by omega) (Nat.zero_le _) ⟨⟨_, Heap.get?_push_size _ rfl, rfl, rfl⟩, (pl2.push _)⟩
          ⟨0, Nat.le_refl 0, setR_new_at (Heap.get?_push_of_some _ gS)⟩ fun s3 c3 mv lc hS3 => ?_
        obtain ⟨hp2, g3, d3, tk3, os3⟩ := s3
        have e1 : g3 = s.gens := mv.gens; have e2 : d3 = s.drawn := mv.drawn; have e3 : os3 = s.os := mv.os
        subst e1; subst e2; subst e3
        show wpAny _ _ _ _ _ _; refine wpAny_pure ?_; show wpAny _ _ (ret Value.none) _ _ _
        refine wpAny_pure ⟨rfl, hp2, tk3, c3, rfl, hS3, by rw [sz] at lc; exact lc, fun b o e => ?_⟩
        have hb0 : b < s.heap.objs.size := Heap.lt_size e
        exact mv.heap b o (by rw [psz]; simp only [List.mem_cons, List.not_mem_nil, or_false, not_or]; exact ⟨Nat.ne_of_lt hb0, Nat.ne_of_lt (Nat.lt_succ_of_lt hb0)⟩) (Heap.get?_push_of_some _ (Heap.get?_push_of_some _ e))
      · cases r2 with
        | error z => exact hr2
        | ok fl2 =>
          cases fl2 with
          | ret x =>
            obtain ⟨rfl, hp2, tk2, c, rfl, g1, g2, g3⟩ := hr2
            repeat (any_goals (first | assumption | wp_step))
            exact fin _ _ _ g1 g2 g3
          | _ => exact hr2.elim
    | _ => exact hr1.elim
end
/-- set(list of ints) -/
def rSetL (w : World) : List V → Hp → VK → Prop := fun xs H Q => ∃ (p : Addr) (ks : List Int), xs = [.ref p] ∧ H p = some (.lst (ks.map V.int)) ∧ ks.length ≤ 1000 ∧
  ∀ (a : Addr) (c : Nat), H a = none → c ≤ ks.length → Q (.ref a) (upd H a (SetO w a (fun j => decide (j ∈ ks)) c))
theorem cr_setL {X : Cx} (hc : X.calm = true) : CallR X (.type "set") (rSetL X.w) := by
  intro pins s σ H xs us Q I r h
  obtain ⟨p, ks, rfl, hp, hl, q⟩ := h
  rw [Vals.ref1 r]
  obtain ⟨its, rv, pl, _⟩ := I.list (SqL.of (K := X.K) hp)
  refine set_of_list ks (I.ok.hd hc) pl.isList (by simpa using RZ.intsAre_vals rv) (by unfold scanBound; omega) fun h' tk c R lc k => ?_
  have nf : H s.heap.objs.size = none := I.hok.fresh (Nat.le_refl _)
  refine ⟨.ref s.heap.objs.size, _, ?_, rfl, q _ c nf lc⟩
  exact I.laid (t' := tk) k (Nat.le_refl _) (setO_new R)
end SetL
namespace Dat
open PySem PySem.Spec PyProof.Rows L2
theorem setLQ {X : Cx} {w : World} (hw : X.w = w) (hc : X.calm = true) : CallR X (.type "set") (SetL.rSetL w) := by subst hw; exact SetL.cr_setL hc
theorem sortSetQ {X : Cx} {w : World} (hw : X.w = w) (hc : X.calm = true) : CallR X (.builtin "sorted") (rSortedSet w) := by subst hw; exact cr_sortedSet hc
section
variable {K : PySem.W.Frag} [Tb K] {Γ : List (Option Av)} {Ω : AH} {P : Av → AH → Prop} {tl : TA} {w : World}
theorem e_sortSet (h : AW K tl Γ Ω fun as Ω1 => ∃ ks : List Int, Dats as [.list (ks.map PyData.int)] ∧ ks.length ≤ 40 ∧ ∀ ns : List Int, ns.Pairwise (· < ·) → (∀ k, k ∈ ns ↔ k ∈ ks) → P (.dat (.list (ns.map PyData.int))) Ω1) :
    EW K (tCB (rSortedSet w) (tCons (tCB (SetL.rSetL w) tl) tNil)) Γ Ω P := fun F σ H Q k q =>
  h F σ H _ k fun as vs Ω1 H1 ⟨ks, ea, hl, hp⟩ k1 v1 => by
    rw [ea.eq] at v1
    cases v1 with | cons va v1 => cases v1; cases va with | dat va =>
      obtain ⟨a, rfl, ha⟩ := dq_intsL va
      refine ⟨a, ks, rfl, Fz_le _ _ ha, by omega, fun b c nb lc => ⟨b, _, c, rfl, upd_same, by omega, fun ns p hs hm _ np => ?_⟩⟩
      have k2 := k1.same (same_new (o := SetO w b (fun j => decide (j ∈ ks)) c) nb)
      exact q _ _ _ _ (hp ns hs fun k => by rw [hm k]; simp) (k2.same (same_new np)) (.dat (lst_new k2 np .ofInts))
end
end Dat

set_option Elab.async false
set_option linter.all false
set_option maxRecDepth 100000
set_option maxHeartbeats 1000000
namespace Dat
open PySem PySem.Spec PyProof.Rows L2
section
variable {K : PySem.W.Frag} [Tb K] {Γ : List (Option Av)} {Ω : AH} {g g1 : TG} {te : TE}
/-- a comprehension of two walks that changes nothing -/
theorem e_lc2P {α β : Type} {wi wi1 : TI} {vs vs1 : List Nat} {P : Av → AH → Prop} (xs : List α) (enc : α → Av) (ys : α → List β) (enc1 : β → Av) (out : α → β → PyData) (hg : GN g vs) (hg1 : GN g1 vs1) (hz : xs.length ≤ 200) (hz1 : ∀ x ∈ xs, (ys x).length ≤ 200)
    (h : IW K wi Γ Ω fun as Ω1 => as = xs.map enc ∧ (∀ x Ω', x ∈ xs → (∀ q bs, Ω1 q = some bs → Ω' q = some bs) → GW K g (enc x) (wipeA Γ vs) Ω' fun Γ2 Ω2 => Ω2 = Ω' ∧ IW K wi1 Γ2 Ω2 fun bs Ω3 => Ω3 = Ω' ∧ bs = (ys x).map enc1 ∧
        ∀ y Ω4, y ∈ ys x → (∀ q bs, Ω1 q = some bs → Ω4 q = some bs) → GW K g1 (enc1 y) (wipeA Γ2 vs1) Ω4 fun Γ5 Ω5 => Ω5 = Ω4 ∧ EW K te Γ5 Ω5 fun z Ω6 => Ω6 = Ω4 ∧ z = .dat (out x y)) ∧
      ∀ D, Ω1 D = none → P (.ptr D) (put Ω1 D ((xs.flatMap fun x => (ys x).map (out x)).map .dat))) : EW K (tLc2 wi g tYes wi1 g1 tYes te vs vs1) Γ Ω P := by
  refine fun F σ H Q k q => h F σ H _ k fun as Ω1 H1 J ⟨ea, hb, hp⟩ k1 wk D nD => ?_
  have fD := k1.free nD
  have ext : ∀ acc q bs, Ω1 q = some bs → put Ω1 D acc q = some bs := fun acc q bs hq => by
    rw [put_ne (ne_of_Ω hq fD)]
    exact hq
  refine ⟨fun i m H' => m = as.length - i ∧ i ≤ as.length ∧ ((xs.take i).flatMap fun x => (ys x).map (out x)).length ≤ 200 * i ∧ Ok K (Fz Ω1 H1) (put Ω1 D (((xs.take i).flatMap fun x => (ys x).map (out x)).map .dat)) Γ σ H', ⟨_, rfl, Nat.zero_le _, Nat.zero_le _, k1.re.new nD .nil⟩, ?_⟩
  rintro i m H' ⟨rfl, hi, hl, k'⟩
  by_cases hlt : i < as.length
  · have hlt' : i < xs.length := by rw [ea, List.length_map] at hlt; exact hlt
    have ex : xs[i]? = some xs[i] := List.getElem?_eq_getElem hlt'
    generalize hx : xs[i] = x at ex
    have mx : x ∈ xs := List.mem_of_getElem? ex
    have eas : as[i]? = some (enc x) := by rw [ea, List.getElem?_map, ex]; rfl
    obtain ⟨hgo, hy⟩ := wk.go _ H' k'.bare i _ eas
    have tk : (xs.take (i + 1)).flatMap (fun x => (ys x).map (out x)) = (xs.take i).flatMap (fun x => (ys x).map (out x)) ++ (ys x).map (out x) := by
      rw [List.take_add_one, ex, List.flatMap_append]
      simp
    refine .inr ⟨hgo, fun H2 => ((xs.take (i + 1)).flatMap fun x => (ys x).map (out x)).length ≤ 200 * (i + 1) ∧ Ok K (Fz Ω1 H1) (put Ω1 D (((xs.take (i + 1)).flatMap fun x => (ys x).map (out x)).map .dat)) Γ σ H2, fun H2 k2 => ⟨_, by omega, rfl, by omega, k2⟩, fun x' H2 hyx => ?_⟩
    obtain ⟨s2, v2⟩ := hy x' H2 hyx
    have k2 := k'.same s2
    refine hg x' (L2.wipe σ vs) H2 _ _ (fun σ3 H3 l3 a3 q3 => ⟨wipe_agree l3 a3, q3⟩) ?_
    refine hb x _ mx (ext _) _ (L2.wipe σ vs) H2 x' _ (k2.re.wipe vs) v2 fun Γ3 σ3 Ω3 H3 ⟨e3, h3⟩ k3 => ?_
    subst e3
    refine h3 _ σ3 H3 _ k3.re fun bs Ω4 H4 J1 ⟨e4, eb, hin⟩ k4 wk1 => ?_
    subst e4
    generalize hA : (xs.take i).flatMap (fun x => (ys x).map (out x)) = A at *
    refine ⟨fun j kk H5 => kk = bs.length - j ∧ j ≤ bs.length ∧ Ok K (Fz (put Ω1 D (A.map .dat)) H4) (put Ω1 D ((A ++ ((ys x).take j).map (out x)).map .dat)) Γ3 σ3 H5, ⟨_, rfl, Nat.zero_le _, ?_⟩, ?_⟩
    · rw [List.take_zero, List.map_nil, List.append_nil]
      exact k4.re
    rintro j kk H5 ⟨rfl, hj, k5⟩
    have hly := hz1 x mx
    by_cases hlj : j < bs.length
    · have hlj' : j < (ys x).length := by rw [eb, List.length_map] at hlj; exact hlj
      have ey : (ys x)[j]? = some (ys x)[j] := List.getElem?_eq_getElem hlj'
      generalize hyy : (ys x)[j] = y at ey
      have my : y ∈ ys x := List.mem_of_getElem? ey
      have ebs : bs[j]? = some (enc1 y) := by rw [eb, List.getElem?_map, ey]; rfl
      obtain ⟨hgo1, hy1⟩ := wk1.go _ H5 k5.bare j _ ebs
      have tj : ((ys x).take (j + 1)).map (out x) = ((ys x).take j).map (out x) ++ [out x y] := by
        rw [List.take_add_one, ey, List.map_append]
        rfl
      refine .inr ⟨hgo1, fun H6 => Ok K (Fz (put Ω1 D (A.map .dat)) H4) (put Ω1 D ((A ++ ((ys x).take (j + 1)).map (out x)).map .dat)) Γ3 σ3 H6, fun H6 k6 => ⟨_, by omega, rfl, by omega, k6⟩, fun y' H6 hyz => ?_⟩
      obtain ⟨s6, v6⟩ := hy1 y' H6 hyz
      have k6 := k5.same s6
      refine hg1 y' (L2.wipe σ3 vs1) H6 _ _ (fun σ7 H7 l7 a7 q7 => ⟨wipe_agree l7 a7, q7⟩) ?_
      refine hin y _ my (ext _) _ (L2.wipe σ3 vs1) H6 y' _ (k6.re.wipe vs1) v6 fun Γ7 σ7 Ω7 H7 ⟨e7, h7⟩ k7 => ?_
      subst e7
      refine h7 _ σ7 H7 _ k7.re fun z v Ω8 H8 ⟨e8, ez⟩ k8 v8 => ?_
      subst e8 ez
      have k8' : Ok K (Fz (put Ω1 D (A.map .dat)) H4) _ Γ3 σ3 H8 := k6.back ((k8.anchor k7.fr).bare)
      obtain ⟨zs, hz8, g8⟩ := k8.st D _ put_same
      have l8 := g8.length
      rw [List.length_map, List.length_append, List.length_map, List.length_take] at l8
      refine ⟨zs, hz8, sz_lt (by omega), ?_⟩
      have := k8'.put put_same (g8.app (.cons v8 .nil))
      rw [put_put] at this
      rw [tj, ← List.append_assoc, List.map_append]
      exact this
    · have ej : j = (ys x).length := by rw [eb, List.length_map] at hj hlj; omega
      have ej2 : j = bs.length := by rw [eb, List.length_map]; exact ej
      refine .inl ⟨by rw [ej2]; exact wk1.stop _ H5 k5.bare, ?_, ?_⟩
      · rw [tk, List.length_append, List.length_map]
        omega
      · rw [tk]
        subst ej
        rw [List.take_length] at k5
        exact k2.back ((k5.anchor (k3.fr.trans k4.fr)).bare)
  · have ei : i = xs.length := by rw [ea, List.length_map] at hi hlt; omega
    subst ei
    refine .inl ⟨by have := wk.stop _ H' k'.bare; rw [ea, List.length_map] at this; exact this, q _ _ _ _ (hp D fD) ?_ (.ptr D)⟩
    rw [List.take_length] at k'
    exact k'.anchor k1.fr
theorem e_lc2M {α β : Type} {wi wi1 : TI} {vs vs1 : List Nat} {P : Av → AH → Prop} (xs : List α) (enc : α → Av) (ys : α → List β) (enc1 : β → Av) (out : α → β → PyData) (hg : GN g vs) (hg1 : GN g1 vs1) (hz : xs.length ≤ 200) (hz1 : ∀ x ∈ xs, (ys x).length ≤ 200)
    (h : IW K wi Γ Ω fun as Ω1 => as = xs.map enc ∧ (∀ x Ω', x ∈ xs → (∀ q bs, Ω1 q = some bs → Ω' q = some bs) → GW K g (enc x) (wipeA Γ vs) Ω' fun Γ2 Ω2 => Ω2 = Ω' ∧ IW K wi1 Γ2 Ω2 fun bs Ω3 => Ω3 = Ω' ∧ bs = (ys x).map enc1 ∧
        ∀ y Ω4, y ∈ ys x → (∀ q bs, Ω1 q = some bs → Ω4 q = some bs) → GW K g1 (enc1 y) (wipeA Γ2 vs1) Ω4 fun Γ5 Ω5 => Ω5 = Ω4 ∧ EW K te Γ5 Ω5 fun z Ω6 => Ω6 = Ω4 ∧ z = .dat (out x y)) ∧
      P (.dat (.list (xs.flatMap fun x => (ys x).map (out x)))) Ω1) : EW K (tLc2 wi g tYes wi1 g1 tYes te vs vs1) Γ Ω P := by
  refine EW.frz (e_lc2P xs enc ys enc1 out hg hg1 hz hz1 fun F σ H R k q => h F σ H R k fun as Ω1 H1 J ⟨ea, hb, hp⟩ k1 wk => q as Ω1 H1 J ⟨ea, hb, fun D nD => ⟨D, _, rfl, put_same, ?_⟩⟩ k1 wk)
  rw [del_put nD]
  exact hp
/-! comparisons with a list that may change -/
variable {p : Addr} {ds : List PyData} {e : PyData} {P : Av → AH → Prop}
theorem Ok.listAt {F H : Hp} (k : Ok K F Ω [] [] H) (o : Ω p = some (ds.map .dat)) : Dq K H (.ref p) (.list ds) := by
  obtain ⟨xs, h1, h2⟩ := k.st p _ o
  exact .lst h1 (h2.dats.same Fz_le)
theorem r_eqP (o : Ω p = some (ds.map .dat)) (s1 : SeqAt.shaped (.list ds) = true) (s2 : SeqAt.shaped e = true) (h : P (.dat (.bool (PyData.eqv (.list ds) e))) Ω) : R2W K (rEqD K) (.ptr p) (.dat e) Ω P := fun F H x y Q k hx hy q => by
  cases hx
  cases hy with | dat hy =>
    exact ⟨_, e, (k.listAt o).dp (shaped_lay s1), (hy.same Fz_le).dp (shaped_lay s2), s1, s2, q _ _ _ _ h k (.dat (.bl _))⟩
theorem r_neP (o : Ω p = some (ds.map .dat)) (s1 : SeqAt.shaped (.list ds) = true) (s2 : SeqAt.shaped e = true) (h : P (.dat (.bool (!PyData.eqv (.list ds) e))) Ω) : R2W K (rNeD K) (.ptr p) (.dat e) Ω P := fun F H x y Q k hx hy q => by
  cases hx
  cases hy with | dat hy =>
    exact ⟨_, e, (k.listAt o).dp (shaped_lay s1), (hy.same Fz_le).dp (shaped_lay s2), s1, s2, q _ _ _ _ h k (.dat (.bl _))⟩
end
end Dat

set_option Elab.async false
set_option linter.all false
set_option maxRecDepth 100000
set_option maxHeartbeats 1000000
namespace Dat
open PySem PySem.Spec PyProof.Rows L2
/-! ### a list beside the empty one -/
def rEqNil (K : PySem.W.Frag) : R2 := fun x y H Q => ∃ a b xs, x = .ref a ∧ y = .ref b ∧ SqL K H a xs ∧ SqL K H b [] ∧ Q (.bl xs.isEmpty) H
theorem op_eqNil {X : Cx} (hu : X.A.units + 64 < cLine) : OpR X (compareOp .Eq) (rEqNil X.K) := by
  intro pins s σ H x y v u Q I rx ry h
  obtain ⟨a, b, xs, rfl, rfl, h1, h2, q⟩ := h
  cases rx
  cases ry
  obtain ⟨its, r1, p1, _⟩ := I.list h1
  obtain ⟨jts, r2, p2, _⟩ := I.list h2
  cases r2
  cases r1 with
  | nil => exact SeqAt.eq_listAt (e := fun _ => true) p1.isList p2.isList rfl (by omega) (fun j h1 _ => by simp at h1) ⟨.bl _, H, I, rfl, q⟩
  | cons _ _ => exact SeqAt.eq_list_lengthsAt p1.isList p2.isList (by simp) (by omega) ⟨.bl _, H, I, rfl, q⟩
theorem eqNilQ {X : Cx} {K : PySem.W.Frag} [Tb K] (hK : X.K = K) (hu : X.A.units + 64 < cLine) : OpR X (compareOp .Eq) (rEqNil K) := by subst hK; exact op_eqNil hu
section
variable {K : PySem.W.Frag} [Tb K] {F : Hp} {Γ : List (Option Av)} {Ω : AH} {P : Av → AH → Prop} {ta tb te : TE} {g : TG} {gs : TGs} {a : Av} {as : List Av} {ds : List PyData}
theorem r_eqNil (h : P (.dat (.bool ds.isEmpty)) Ω) : R2W K (rEqNil K) (.dat (.list ds)) (.dat (.list [])) Ω P := fun F H x y Q k hx hy q => by
  cases hx with | dat hx => cases hy with | dat hy => cases hx with | lst h1 g1 => cases hy with | lst h2 g2 =>
    cases g2
    refine ⟨_, _, _, rfl, rfl, SqL.of (Fz_le _ _ h1), SqL.of (Fz_le _ _ h2), ?_⟩
    have e : ∀ {vs : List V}, DqAll K (Fz Ω H) vs ds → vs.isEmpty = ds.isEmpty := fun g => by cases g <;> rfl
    rw [e g1]
    exact q _ _ _ _ h k (.dat (.bl _))
/-- {} -/
theorem e_dnew (h : P (.dat (.dict [])) Ω) : EW K tDNewK Γ Ω P := fun F σ H Q k q p np =>
  q _ _ _ _ h (k.same (same_new np)) (.dat (.dct (Fz_at (k.off np))))
/-- a list's place as a target -/
theorem g_sub {P : List (Option Av) → AH → Prop} (h : EW K ta Γ Ω fun o Ω2 => ∃ p, o = .ptr p ∧ EW K tb Γ Ω2 fun c Ω3 => ∃ (z : Int) (as : List Av) (j : Nat), c = .dat (.int z) ∧ Ω3 p = some as ∧ ixN as.length z = some j ∧ P Γ (put Ω3 p (as.set j a))) : GW K (gSub ta tb rSetL) a Γ Ω P := fun F σ H v Q k1 v1 q => by
  refine h (Fz Ω H) σ H _ k1.re fun o x Ω2 H2 ⟨p, eo, h2⟩ k2 v2 => ?_
  subst eo
  cases v2
  refine h2 (Fz Ω2 H2) σ H2 _ k2.re fun c y Ω3 H3 ⟨z, as, jj, ec, ep, ej, hn⟩ k3 v3 => ?_
  subst ec
  cases v3 with | dat v3 =>
    cases v3
    obtain ⟨xs, hx, g⟩ := k3.st p as ep
    refine ⟨p, xs, z, jj, rfl, rfl, hx, ?_, q _ _ _ _ hn ((k3.anchor (k1.fr.trans k2.fr)).put ep (g.set jj ((v1.same k2.fr).same k3.fr)))⟩
    rw [g.length]
    exact ej
theorem gs_consO {P : List (Option Av) → AH → Prop} (h : GW K g a Γ Ω fun Γ1 Ω1 => GsW K gs as Γ1 Ω1 P) : GsW K (gCons g gs) (a :: as) Γ Ω P := fun F σ H vs Q k hv q => by
  cases hv with | cons hv hr =>
    exact ⟨_, _, rfl, h (Fz Ω H) σ H _ _ k.re hv fun Γ1 σ1 Ω1 H1 h1 k1 => h1 F σ1 H1 _ Q (k1.anchor k.fr) (hr.same k1.fr) q⟩
/-- (x,) * n, n at least 2 -/
theorem dqAll_flat' {H : Hp} {xs : List V} (g : DqAll K H xs ds) : ∀ n : Nat, DqAll K H (List.replicate n xs).flatten (List.replicate n ds).flatten
  | 0 => .nil
  | n + 1 => by
    rw [List.replicate_succ, List.replicate_succ, List.flatten_cons, List.flatten_cons]
    exact g.app (dqAll_flat' g n)
theorem r_repT {k : Int} (ne : ds ≠ []) (h1 : 2 ≤ k) (h2 : k ≤ 1000) (hl : ds.length ≤ 1000) (h : P (.dat (.tuple (List.replicate k.toNat ds).flatten)) Ω) : R2W K (rRepT K) (.dat (.tuple ds)) (.dat (.int k)) Ω P := fun F H x y Q kk hx hy q => by
  cases hx with | dat hx => cases hy with | dat hy =>
    cases hy
    cases hx with | tup hs g =>
      have l := g.length
      refine ⟨_, k, _, rfl, rfl, sqT_same Fz_le hs, fun e => ?_, h1, h2, by omega, fun p np => q _ _ _ _ h (kk.same (same_new np)) (.dat (tup_new kk np (dqAll_flat' g _)))⟩
      subst e
      cases g
      exact ne rfl
theorem repTQ {X : Cx} (hK : X.K = K) : OpR X (binaryOp .Mult) (rRepT K) := by subst hK; exact op_repT
end
theorem dats_pack {as : List Av} {ds : List PyData} {Q : List PyData → Prop} (h1 : Dats as ds) (h2 : Nat.ble ds.length 100000 = true) (h3 : Q ds) : ∃ ds, Dats as ds ∧ Nat.ble ds.length 100000 = true ∧ Q ds := ⟨ds, h1, h2, h3⟩
theorem cutD_mem {α : Type} {xs : List α} {lo hi : Option Int} {x : α} (h : x ∈ cutD xs lo hi) : x ∈ xs := List.mem_of_mem_drop (List.mem_of_mem_take h)
theorem cutD_len {α : Type} {xs : List α} {lo hi : Option Int} : (cutD xs lo hi).length ≤ xs.length := by
  unfold cutD
  rw [List.length_take, List.length_drop]
  omega
end Dat

set_option Elab.async false
set_option linter.all false
set_option maxRecDepth 100000
set_option maxHeartbeats 1000000
namespace Dat
open PySem PySem.Spec PyProof.Rows L2
section
variable {K : PySem.W.Frag} [Tb K] {Γ : List (Option Av)} {Ω : AH} {P : Av → AH → Prop} {ds es : List PyData} {p p2 : Addr} {tl tk : TA} {sp : ASp} {X : XK}
/-- two lists that stay, the sum one that may change -/
theorem r_catLLP (hl : ds.length + es.length ≤ 100000) (h : ∀ q, Ω q = none → P (.ptr q) (put Ω q ((ds ++ es).map .dat))) : R2W K rCat (.dat (.list ds)) (.dat (.list es)) Ω P := fun F H x y Q k hx hy q => by
  cases hx with | dat hx => cases hy with | dat hy => cases hx with | lst h1 g1 => cases hy with | lst h2 g2 =>
    have l1 := g1.length
    have l2 := g2.length
    exact ⟨_, _, _, _, rfl, rfl, Fz_le _ _ h1, Fz_le _ _ h2, sz_of (by omega), fun z nz => q _ _ _ _ (h z (k.free nz)) (k.new nz (.ofDats (g1.app g2))) (.ptr z)⟩
/-- two lists that may change, the sum one that stays -/
theorem r_catPPd (o1 : Ω p = some (ds.map .dat)) (o2 : Ω p2 = some (es.map .dat)) (hl : ds.length + es.length ≤ 100000) (h : P (.dat (.list (ds ++ es))) Ω) : R2W K rCat (.ptr p) (.ptr p2) Ω P := fun F H x y Q k hx hy q => by
  cases hx
  cases hy
  obtain ⟨xs, h1, g1⟩ := k.st p _ o1
  obtain ⟨ys, h2, g2⟩ := k.st p2 _ o2
  have l1 := g1.dats.length
  have l2 := g2.dats.length
  exact ⟨_, _, _, _, rfl, rfl, h1, h2, sz_of (by omega), fun z nz => q _ _ _ _ h (k.same (same_new nz)) (.dat (lst_new k nz (g1.dats.app g2.dats)))⟩
/-- a call with keywords alone -/
theorem e_callK {π : List Nat} {m : Nat} (h : AW K tk Γ Ω fun bs Ω2 => bs.length = m ∧ sp (kwA π bs) Ω2 P) : EW K (tCallN 0 m (spA K sp) (fun _ zs => kwV π zs) X tNil tk) Γ Ω P :=
  e_callN (n := 0) (m := m) (fun _ bs => kwA π bs) (fun F as bs vs us _ h => kw_va h π) (a_nil (fun F σ H Q k q => h F σ H Q k fun bs vs Ω1 H1 ⟨e, hs⟩ => q bs vs Ω1 H1 ⟨rfl, e, hs⟩))
end
end Dat

set_option Elab.async false
set_option linter.all false
set_option maxRecDepth 100000
set_option maxHeartbeats 2000000
/-! enumerate of a tuple, zip of three tuples -/
namespace Enz
open PySem PySem.Spec PyProof.Rows L2
abbrev tIt (t : Addr) : Obj := { cls := .type "tuple_iterator", data := .fields #[.ref t, .int 0 0] }
theorem meets_new1 {v : Value} {ob : Obj} {Z : Heap → Prop} (B : Begins v ob Z) :
    Meets (Builtin.«enumerate.__new__» ⟨[.type "enumerate", v], []⟩) (fun _ R s => Z s.heap ∧
      R (.ok (.ret (.ref (s.heap.push ob).objs.size))) { s with heap := (s.heap.push ob).push { cls := .type "enumerate", data := .fields #[.none, .bool false, .ref s.heap.objs.size, rawInt 0, .none, .none] } }) :=
  .of_wp fun prog w A R s z => by
    obtain ⟨hp, gs, dr, tk, os⟩ := s; obtain ⟨z1, fin⟩ := z; have sb := sub_enumerate
    have it1 : ∀ {A2 : Around} {E2 : Value → Shared → Prop} {Q2 : Value → Shared → Prop}, Q2 (.ref hp.objs.size) ⟨hp.push ob, gs, dr, tk, os⟩ → wpAny (model prog w) A2 (pyIter v) Q2 E2 ⟨hp, gs, dr, tk, os⟩ :=
      fun y => B.iter prog w _ _ ⟨hp, gs, dr, tk, os⟩ _ z1 y
    wp_walk using it1
    refine wpAny_stack_any fun stk => wpAny_pure ?_; split
    · rename_i cl _ _ _ _ _; cases (cl == Value.type "enumerate")
      · wp_walk using it1; exact ⟨_, rfl, fin⟩
      · wp_walk using it1; exact ⟨_, rfl, fin⟩
    · wp_walk using it1; exact ⟨_, rfl, fin⟩
section
variable {prog : Program} {w : World} {A : Around} {E : Value → Shared → Prop} {s : Shared}
theorem call_enum1 {v : Value} {ob : Obj} {Z : Heap → Prop} {Q : Value → Shared → Prop} (B : Begins v ob Z) (z1 : Z s.heap)
    (fin : ∀ h2, IsEnum h2 (s.heap.objs.size + 1) s.heap.objs.size 0 .none → h2.get? s.heap.objs.size = some ob → (∀ b o, s.heap.get? b = some o → h2.get? b = some o) → Q (.ref (s.heap.objs.size + 1)) { s with heap := h2 }) :
    wpAny (model prog w) A (call (.type "enumerate") [v]) Q E s := by
  refine callType_new F.called_enumerate (by decide) (F.typeCall_enumerate_1 _) (F.newCall_enumerate_1 _) (fun x => F.args_object_init_2 x _) F.entry_enumerate_new (meets_new1 B) ⟨z1, ?_⟩
  have sz : (s.heap.push ob).objs.size = s.heap.objs.size + 1 := Heap.size_push ..
  show _ ∧ _; rw [sz]
  have ie : IsEnum ((s.heap.push ob).push { cls := .type "enumerate", data := .fields #[.none, .bool false, .ref s.heap.objs.size, rawInt 0, .none, .none] }) (s.heap.objs.size + 1) s.heap.objs.size 0 .none := by
    have y := Heap.get?_push_size (s.heap.push ob) (o := { cls := .type "enumerate", data := .fields #[.none, .bool false, .ref s.heap.objs.size, rawInt 0, .none, .none] }) rfl
    rw [sz] at y; exact y
  exact ⟨⟨_, ie, rfl⟩, fin _ ie (Heap.get?_push_of_some _ (Heap.get?_push_size _ B.free)) fun b o x => Heap.get?_push_of_some _ (Heap.get?_push_of_some _ x)⟩
end
/-- the tuple at a, each item in a new pair with its number -/
def IteT (K : PySem.W.Frag) (a : Addr) : It :=
  ⟨fun i H => ∃ (xs : List V) (x : V), SqT K H a xs ∧ xs[i]? = some x, fun i H v H' => ∃ T x, v = .ref T ∧ H T = none ∧ H' = upd H T (.tup [.int (i : Nat), x]) ∧ ∀ xs, SqT K H a xs → xs[i]? = some x, fun i H => ∃ xs : List V, SqT K H a xs ∧ xs.length = i⟩
theorem turn_enumT {P : Program} {w : World} {K : PySem.W.Frag} {elts : List Expr} {kk : Nat} {tpos : Pos} (a e it : Addr) :
    Turn P w K (.Tuple elts kk tpos) (IteT K a) [e, it] e (fun i h => (∃ old, IsEnum h e it ((i : Nat) : Int) old) ∧ h.IsTupleIter it a i ∧ e ≠ it ∧ e ≠ a ∧ a ≠ it) where
  mem := by simp
  obj := fun i h st b hb => by
    obtain ⟨⟨old, z1⟩, ⟨o, z2, _, z3⟩, _⟩ := st
    rcases (by simpa using hb : b = e ∨ b = it) with y | y
    · rw [y]; exact ⟨_, z1, fun v q => nomatch q⟩
    · rw [y]; exact ⟨o, z2, fun v q => by rw [z3] at q; cases q⟩
  keep := fun i h h' st k => let ⟨⟨old, z1⟩, z2, z3⟩ := st; ⟨⟨old, k e (by simp) _ z1⟩, z2.at fun o q => k it (by simp) o q, z3⟩
  item := by
    intro X hP hw hK hc i pins s σ H E I hf st hg
    subst hP hw hK
    obtain ⟨⟨old, z1⟩, z2, n1, n2, n3⟩ := st
    obtain ⟨xs, x, hq, hx⟩ := hg
    obtain ⟨its, rv, pt, _⟩ := I.tuple hq
    obtain ⟨u, hu, ru⟩ := rv.get hx
    have li : i < its.length := (List.getElem?_eq_some_iff.mp hu).1
    have el : e < s.heap.objs.size := Heap.lt_size z1
    have il : it < s.heap.objs.size := by obtain ⟨_, q, _⟩ := z2; exact Heap.lt_size q
    have dw := Draws.tuple (prog := X.prog) (w := X.w) (A := X.A.in1) (by simp [I.ok.hd hc]) it a n3 its.toArray
    refine wpAny_pyNext_enum_itemD dw z1 ⟨z2, pt⟩ (by simpa using li) n1 (by simp [n1, n2]) fun y h2 tk py io st2 hT sz k => ?_
    have ey : y = u := by
      have py' : its.toArray[i]? = some y := py
      rw [List.getElem?_toArray, hu] at py'
      exact (Option.some.inj py').symm
    subst ey
    refine ⟨_, rfl, wpAny_letOwnedTupleGo_enum (s := { s with heap := h2, toks := tk + 1 }) io fun h3 ie sb => ?_⟩
    have hT3 : h3.get? s.heap.objs.size = some { cls := .type "tuple", data := .seq #[.int i tk, y] } := (sb.2 _ (Nat.ne_of_gt el)).trans hT
    have new : ObjOk X.prog X.w (upd H s.heap.objs.size (.tup [.int (i : Nat), x])) h3 s.heap.objs.size (.tup [.int (i : Nat), x]) :=
      ⟨by show 2 ≤ sizeLine; decide, [.int i tk, y], .cons ⟨_, rfl⟩ (.cons ru .nil), ⟨_, hT3, rfl, _, rfl⟩⟩
    have I2 : Inv X pins σ (upd H s.heap.objs.size (.tup [.int (i : Nat), x])) { s with heap := h3, toks := tk + 1 } :=
      I.turnedNew (ch := [e, it]) (fun b o hb q => (sb.2 b (fun z => hb (by simp [z]))).trans (k b o (fun z => hb (by simp [z])) (fun z => hb (by simp [z])) q)) hf (Nat.le_refl _) new
    refine ⟨.ref s.heap.objs.size, _, I2, rfl, ⟨_, x, rfl, I.hok.fresh (Nat.le_refl _), rfl, fun ys hy => by rw [I.tuple_inj hy hq]; exact hx⟩, ⟨⟨y, ?_⟩, st2.1.at fun o q => (sb.2 it (Ne.symm n1)).trans q, n1, n2, n3⟩, fun b hb => ?_⟩
    · rw [show ((i + 1 : Nat) : Int) = (i : Int) + 1 by omega]; exact ie
    · have lb : b < s.heap.objs.size := by
        rcases (by simpa using hb : b = e ∨ b = it) with z | z
        · rw [z]; exact el
        · rw [z]; exact il
      rw [upd_ne (Nat.ne_of_lt lb)]; exact (hf b hb).1
  done := by
    intro X hP hw hK hc i pins s σ H E I hf st hg
    subst hP hw hK
    obtain ⟨⟨old, z1⟩, z2, n1, n2, n3⟩ := st
    obtain ⟨xs, hq, hx⟩ := hg
    obtain ⟨its, rv, pt, _⟩ := I.tuple hq
    obtain ⟨f0, f1, f2, f3, f4, f5⟩ := hf it (by simp)
    have ln := rv.length
    have dw := Draws.tuple (prog := X.prog) (w := X.w) (A := X.A.in1) (by simp [I.ok.hd hc]) it a n3 its.toArray
    have ei : i = its.toArray.size := by rw [List.size_toArray]; omega
    subst ei
    exact wpAny_pyNext_enum_endD dw z1 ⟨z2, pt⟩ fun h2 eb => ⟨rfl, I.turned (t' := s.toks) (fun b o hb q => eb b o hb q) f0 f1 f3 f4 f5⟩
  self := fun A i s Q E st h => let ⟨⟨_, z1⟩, _⟩ := st; wpAny_pyIter_enum z1 h
def iEnumT (K : PySem.W.Frag) (ta : TA) : TI := fun σ H R => ta σ H fun vs H1 => ∃ a xs, vs = [.ref a] ∧ SqT K H1 a xs ∧ R (IteT K a) H1
theorem pi_enumT {X : Cx} {e : Expr} {ta : TA} {p pos tpos : Pos} {elts : List Expr} {kk : Nat} (hg : Gl X "enumerate") (hm : X.mg "enumerate" = none) (ha : PA X [e] ta) (hs : starEach [e] X.env = [(false, eval e X.env)] := by rfl) :
    PI X (.Tuple elts kk tpos) (.Call (.Name "enumerate" p) [e] [] pos) (iEnumT X.K ta) := by
  refine ⟨fun pins s σ H R I h => Call_ (ld_blt I hg hm boot_enumerate (PyProof.Rows.callWith_type1 (thn (ha.run pos pins s σ H _ I h) fun us s1 ⟨vs, H1, I1, r1, q1⟩ => ?_) hs rfl))⟩
  obtain ⟨a, xs, ex, hq, q⟩ := q1
  subst ex
  cases r1 with | cons r rr =>
    cases rr; cases r
    obtain ⟨its, rv, pt, _⟩ := I1.tuple hq
    have la : a < s1.heap.objs.size := by obtain ⟨_, y, _⟩ := pt; exact Heap.lt_size y
    refine call_enum1 (begins_tuple a its.toArray) pt fun h2 ie gi k => wpAny_pyIter_enum ie ?_
    have I2 : Inv X pins σ H1 { s1 with heap := h2 } := I1.kept (t' := s1.toks) k
    refine ⟨s1.heap.objs.size + 1, [s1.heap.objs.size + 1, s1.heap.objs.size], _, _, H1, rfl, I2, turn_enumT a (s1.heap.objs.size + 1) s1.heap.objs.size, ⟨⟨.none, ie⟩, ⟨_, gi, rfl, rfl⟩, Nat.succ_ne_self _, Nat.ne_of_gt (Nat.lt_succ_of_lt la), Nat.ne_of_lt la⟩, fun b hb => ?_, q⟩
    have lb : s1.heap.objs.size ≤ b := by
      rcases (by simpa using hb : b = s1.heap.objs.size + 1 ∨ b = s1.heap.objs.size) with z | z
      · rw [z]; exact Nat.le_add_right _ _
      · rw [z]; exact Nat.le_refl _
    exact I1.fpOk lb (I1.hok.fresh lb)
/-! ### zip of three tuples -/
def ItzT3 (K : PySem.W.Frag) (a b c : Addr) : It :=
  ⟨fun i H => ∃ (xs ys zs : List V) (x y z : V), SqT K H a xs ∧ SqT K H b ys ∧ SqT K H c zs ∧ xs[i]? = some x ∧ ys[i]? = some y ∧ zs[i]? = some z,
    fun i H v H' => ∃ T x y z, v = .ref T ∧ H T = none ∧ H' = upd H T (.tup [x, y, z]) ∧ (∀ xs, SqT K H a xs → xs[i]? = some x) ∧ (∀ ys, SqT K H b ys → ys[i]? = some y) ∧ ∀ zs, SqT K H c zs → zs[i]? = some z,
    fun i H => ∃ xs ys zs : List V, SqT K H a xs ∧ SqT K H b ys ∧ SqT K H c zs ∧ xs.length = i ∧ ys.length = i ∧ zs.length = i⟩
theorem pick {its : List Value} {i : Nat} {u y : Value} (hu : its[i]? = some u) (hy : its.toArray[i]? = some y) : y = u := by
  rw [List.getElem?_toArray, hu] at hy
  exact (Option.some.inj hy).symm
theorem turn_zip3 {P : Program} {w : World} {K : PySem.W.Frag} {elts : List Expr} {kk : Nat} {tpos : Pos} {a b c z TI TO i1 i2 i3 : Addr} (D : ZipSep3 z TI TO i1 i2 i3 [i1, a] [i2, b] [i3, c]) (na : a ≠ i1) (nb : b ≠ i2) (nc : c ≠ i3) :
    Turn P w K (.Tuple elts kk tpos) (ItzT3 K a b c) [z, TI, TO, i1, i2, i3] z (fun i h => IsZip h z TI TO .none ∧ IsTupOf3 h TI (.ref i1) (.ref i2) (.ref i3) ∧ (∃ x y u, IsTupOf3 h TO x y u) ∧ h.IsTupleIter i1 a i ∧ h.IsTupleIter i2 b i ∧ h.IsTupleIter i3 c i) where
  mem := by simp
  obj := fun i h st m hm => by
    obtain ⟨hz, hTI, ⟨x, y, u, hTO⟩, ⟨o1, e1, _, d1⟩, ⟨o2, e2, _, d2⟩, ⟨o3, e3, _, d3⟩⟩ := st
    rcases (by simpa using hm : m = z ∨ m = TI ∨ m = TO ∨ m = i1 ∨ m = i2 ∨ m = i3) with q | q | q | q | q | q
    · rw [q]; exact ⟨_, hz, fun v q => nomatch q⟩
    · rw [q]; exact ⟨_, hTI, fun v q => nomatch q⟩
    · rw [q]; exact ⟨_, hTO, fun v q => nomatch q⟩
    · rw [q]; exact ⟨o1, e1, fun v q => by rw [d1] at q; cases q⟩
    · rw [q]; exact ⟨o2, e2, fun v q => by rw [d2] at q; cases q⟩
    · rw [q]; exact ⟨o3, e3, fun v q => by rw [d3] at q; cases q⟩
  keep := fun i h h' st k => by
    obtain ⟨hz, hTI, ⟨x, y, u, hTO⟩, h1, h2, h3⟩ := st
    exact ⟨k z (by simp) _ hz, k TI (by simp) _ hTI, ⟨x, y, u, k TO (by simp) _ hTO⟩, h1.at fun o q => k i1 (by simp) o q, h2.at fun o q => k i2 (by simp) o q, h3.at fun o q => k i3 (by simp) o q⟩
  item := by
    intro X hP hw hK hc i pins s σ H E I hf st hg
    subst hP hw hK
    obtain ⟨hz, hTI, ⟨x0, y0, u0, hTO⟩, h1, h2, h3⟩ := st
    obtain ⟨xs, ys, zs, x, y, t, hqx, hqy, hqz, hx, hy, ht⟩ := hg
    obtain ⟨its, rv, p1, _⟩ := I.tuple hqx; obtain ⟨jts, rw2, p2, _⟩ := I.tuple hqy; obtain ⟨kts, rw3, p3, _⟩ := I.tuple hqz
    obtain ⟨u1, hu1, ru1⟩ := rv.get hx; obtain ⟨u2, hu2, ru2⟩ := rw2.get hy; obtain ⟨u3, hu3, ru3⟩ := rw3.get ht
    have l1 : i < its.length := (List.getElem?_eq_some_iff.mp hu1).1; have l2 : i < jts.length := (List.getElem?_eq_some_iff.mp hu2).1; have l3 : i < kts.length := (List.getElem?_eq_some_iff.mp hu3).1
    have nh : X.A.in1.handled = none := by simp [I.ok.hd hc]
    have dw1 := Draws.tuple (prog := X.prog) (w := X.w) (A := X.A.in1) nh i1 a na its.toArray
    have dw2 := Draws.tuple (prog := X.prog) (w := X.w) (A := X.A.in1) nh i2 b nb jts.toArray
    have dw3 := Draws.tuple (prog := X.prog) (w := X.w) (A := X.A.in1) nh i3 c nc kts.toArray
    have zl : z < s.heap.objs.size := Heap.lt_size hz
    refine wpAny_pyNext_zipD3_item D dw1 dw2 dw3 hz hTI hTO ⟨h1, p1⟩ ⟨h2, p2⟩ ⟨h3, p3⟩ (by simpa using l1) (by simpa using l2) (by simpa using l3) fun v1 v2 v3 g tk q1 q2 q3 z' TO' s1 s2 s3 hT sz k => ?_
    have e1 := pick hu1 q1; have e2 := pick hu2 q2; have e3 := pick hu3 q3
    subst e1; subst e2; subst e3
    refine ⟨_, rfl, wpAny_letOwnedTupleGo_zip (s := { s with heap := g, toks := tk }) z' fun g2 z'' sb => ?_⟩
    have hT2 : g2.get? s.heap.objs.size = some { cls := .type "tuple", data := .seq #[v1, v2, v3] } := (sb.2 _ (Nat.ne_of_gt zl)).trans hT
    have new : ObjOk X.prog X.w (upd H s.heap.objs.size (.tup [x, y, t])) g2 s.heap.objs.size (.tup [x, y, t]) :=
      ⟨by show 3 ≤ sizeLine; decide, [v1, v2, v3], .cons ru1 (.cons ru2 (.cons ru3 .nil)), ⟨_, hT2, rfl, _, rfl⟩⟩
    have I2 : Inv X pins σ (upd H s.heap.objs.size (.tup [x, y, t])) { s with heap := g2, toks := tk } :=
      I.turnedNew (t' := tk) (ch := [z, TI, TO, i1, i2, i3]) (fun m o hb q => (sb.2 m (fun q' => hb (by simp [q']))).trans (k m o (fun q' => hb (by simp [q'])) (fun q' => hb (by simp [q'])) (fun q' => hb (by simp [q'])) (fun q' => hb (by simp [q'])) (fun q' => hb (by simp [q'])) q)) hf (Nat.le_refl _) new
    refine ⟨.ref s.heap.objs.size, _, I2, rfl, ⟨_, x, y, t, rfl, I.hok.fresh (Nat.le_refl _), rfl, fun l hl => by rw [I.tuple_inj hl hqx]; exact hx, fun l hl => by rw [I.tuple_inj hl hqy]; exact hy, fun l hl => by rw [I.tuple_inj hl hqz]; exact ht⟩, ⟨z'', ?_, ⟨v1, v2, v3, ?_⟩, ?_, ?_, ?_⟩, fun m hm => ?_⟩
    · exact (sb.2 _ D.TIz).trans (k _ _ D.TIz D.TITO D.TIi1 D.TIi2 D.TIi3 hTI)
    · exact (sb.2 _ D.TOz).trans TO'
    · exact s1.1.at fun o q => (sb.2 _ D.zi1.symm).trans q
    · exact s2.1.at fun o q => (sb.2 _ D.zi2.symm).trans q
    · exact s3.1.at fun o q => (sb.2 _ D.zi3.symm).trans q
    · have lm : m < s.heap.objs.size := by
        rcases (by simpa using hm : m = z ∨ m = TI ∨ m = TO ∨ m = i1 ∨ m = i2 ∨ m = i3) with q | q | q | q | q | q
        · rw [q]; exact zl
        · rw [q]; exact Heap.lt_size hTI
        · rw [q]; exact Heap.lt_size hTO
        · rw [q]; obtain ⟨_, w1, _⟩ := h1; exact Heap.lt_size w1
        · rw [q]; obtain ⟨_, w1, _⟩ := h2; exact Heap.lt_size w1
        · rw [q]; obtain ⟨_, w1, _⟩ := h3; exact Heap.lt_size w1
      rw [upd_ne (Nat.ne_of_lt lm)]; exact (hf m hm).1
  done := by
    intro X hP hw hK hc i pins s σ H E I hf st hg
    subst hP hw hK
    obtain ⟨hz, hTI, ⟨x0, y0, u0, hTO⟩, h1, h2, h3⟩ := st
    obtain ⟨xs, ys, zs, hqx, hqy, hqz, ln1, ln2, ln3⟩ := hg
    obtain ⟨its, rv, p1, _⟩ := I.tuple hqx; obtain ⟨jts, rw2, p2, _⟩ := I.tuple hqy; obtain ⟨kts, rw3, p3, _⟩ := I.tuple hqz
    have m1 := rv.length; have m2 := rw2.length; have m3 := rw3.length
    have nh : X.A.in1.handled = none := by simp [I.ok.hd hc]
    have dw1 := Draws.tuple (prog := X.prog) (w := X.w) (A := X.A.in1) nh i1 a na its.toArray
    have dw2 := Draws.tuple (prog := X.prog) (w := X.w) (A := X.A.in1) nh i2 b nb jts.toArray
    have dw3 := Draws.tuple (prog := X.prog) (w := X.w) (A := X.A.in1) nh i3 c nc kts.toArray
    exact wpAny_pyNext_zipD3_end D dw1 dw2 dw3 hz hTI hTO ⟨h1, p1⟩ ⟨h2, p2⟩ ⟨h3, p3⟩ (by simp; omega) (by simp; omega) (by simp; omega) (.inl (by simp; omega)) fun g tk k => ⟨rfl, I.turnedL (t' := tk) (ch := [z, TI, TO, i1, i2, i3]) (fun m o hb q =>
      k m o (fun q' => hb (by simp [q'])) (fun q' => hb (by simp [q'])) (fun q' => hb (by simp [q'])) (fun q' => hb (by simp [q'])) (fun q' => hb (by simp [q'])) q) hf⟩
  self := fun A i s Q E st h => wpAny_pyIter_zip st.1 h
def iZip3 (K : PySem.W.Frag) (ta : TA) : TI := fun σ H R => ta σ H fun vs H1 => ∃ a b c xs ys zs, vs = [.ref a, .ref b, .ref c] ∧ SqT K H1 a xs ∧ SqT K H1 b ys ∧ SqT K H1 c zs ∧ R (ItzT3 K a b c) H1
theorem pi_zip3 {X : Cx} {e e2 e3 : Expr} {ta : TA} {p pos tpos : Pos} {elts : List Expr} {kk : Nat} (hg : Gl X "zip") (hm : X.mg "zip" = none) (ha : PA X [e, e2, e3] ta)
    (hs : starEach [e, e2, e3] X.env = (false, eval e X.env) :: starEach [e2, e3] X.env := by rfl) (hpl : (backTo pos (starEach [e2, e3] X.env)).any (·.1) = false := by rfl) :
    PI X (.Tuple elts kk tpos) (.Call (.Name "zip" p) [e, e2, e3] [] pos) (iZip3 X.K ta) := by
  refine ⟨fun pins s σ H R I h => Call_ (ld_blt I hg hm PyProof.Rows.boot_zip (PyProof.Rows.callWith_type1 (thn (ha.run pos pins s σ H _ I h) fun us s1 ⟨vs, H1, I1, r1, q1⟩ => ?_) hs hpl))⟩
  obtain ⟨a, b, c, xs, ys, zs, ex, hqa, hqb, hqc, q⟩ := q1
  subst ex
  cases r1 with | cons ra r1 => cases r1 with | cons rb r1 => cases r1 with | cons rc r1 =>
    cases r1; cases ra; cases rb; cases rc
    obtain ⟨its, _, p1, _⟩ := I1.tuple hqa; obtain ⟨jts, _, p2, _⟩ := I1.tuple hqb; obtain ⟨kts, _, p3, _⟩ := I1.tuple hqc
    have la : a < s1.heap.objs.size := by obtain ⟨_, y, _⟩ := p1; exact Heap.lt_size y
    have lb : b < s1.heap.objs.size := by obtain ⟨_, y, _⟩ := p2; exact Heap.lt_size y
    have lc : c < s1.heap.objs.size := by obtain ⟨_, y, _⟩ := p3; exact Heap.lt_size y
    refine zip_begins3 (begins_tuple a its.toArray) (begins_tuple b jts.toArray) (begins_tuple c kts.toArray) p1 p2 p3 fun g hz hTI hTO g1 g2 g3 _ k => wpAny_pyIter_zip hz ?_
    have I2 : Inv X pins σ H1 { s1 with heap := g } := I1.kept (t' := s1.toks) k
    have sep : ZipSep3 (s1.heap.objs.size + 5) (s1.heap.objs.size + 3) (s1.heap.objs.size + 4) s1.heap.objs.size (s1.heap.objs.size + 1) (s1.heap.objs.size + 2) [s1.heap.objs.size, a] [s1.heap.objs.size + 1, b] [s1.heap.objs.size + 2, c] :=
      zip_sep3 (fp1 := [a]) (fp2 := [b]) (fp3 := [c]) (by simpa using la) (by simpa using lb) (by simpa using lc)
    refine ⟨s1.heap.objs.size + 5, [s1.heap.objs.size + 5, s1.heap.objs.size + 3, s1.heap.objs.size + 4, s1.heap.objs.size, s1.heap.objs.size + 1, s1.heap.objs.size + 2], _, _, H1, rfl, I2, turn_zip3 sep (Nat.ne_of_lt la) (Nat.ne_of_lt (Nat.lt_succ_of_lt lb)) (Nat.ne_of_lt (Nat.lt_succ_of_lt (Nat.lt_succ_of_lt lc))), ⟨hz, hTI, ⟨_, _, _, hTO⟩, ⟨_, g1, rfl, rfl⟩, ⟨_, g2, rfl, rfl⟩, ⟨_, g3, rfl, rfl⟩⟩, fun m hm => ?_, q⟩
    have lm : s1.heap.objs.size ≤ m := by
      rcases (by simpa using hm : m = s1.heap.objs.size + 5 ∨ m = s1.heap.objs.size + 3 ∨ m = s1.heap.objs.size + 4 ∨ m = s1.heap.objs.size ∨ m = s1.heap.objs.size + 1 ∨ m = s1.heap.objs.size + 2) with z | z | z | z | z | z
      all_goals (rw [z]; first | exact Nat.le_add_right _ _ | exact Nat.le_refl _)
    exact I1.fpOk lm (I1.hok.fresh lm)
end Enz

set_option Elab.async false
set_option linter.all false
set_option maxRecDepth 100000
set_option maxHeartbeats 1000000
namespace Dat
open PySem PySem.Spec PyProof.Rows L2
theorem enumTQ {X : Cx} {K : PySem.W.Frag} [Tb K] {e : Expr} {ta : TA} {p pos tpos : Pos} {elts : List Expr} {kk : Nat} (hK : X.K = K) (hg : Gl X "enumerate") (hm : X.mg "enumerate" = none) (ha : PA X [e] ta) (hs : starEach [e] X.env = [(false, eval e X.env)] := by rfl) :
    PI X (.Tuple elts kk tpos) (.Call (.Name "enumerate" p) [e] [] pos) (Enz.iEnumT K ta) := by
  subst hK
  exact Enz.pi_enumT hg hm ha hs
theorem zip3Q {X : Cx} {K : PySem.W.Frag} [Tb K] {e e2 e3 : Expr} {ta : TA} {p pos tpos : Pos} {elts : List Expr} {kk : Nat} (hK : X.K = K) (hg : Gl X "zip") (hm : X.mg "zip" = none) (ha : PA X [e, e2, e3] ta)
    (hs : starEach [e, e2, e3] X.env = (false, eval e X.env) :: starEach [e2, e3] X.env := by rfl) (hpl : (backTo pos (starEach [e2, e3] X.env)).any (·.1) = false := by rfl) :
    PI X (.Tuple elts kk tpos) (.Call (.Name "zip" p) [e, e2, e3] [] pos) (Enz.iZip3 K ta) := by
  subst hK
  exact Enz.pi_zip3 hg hm ha hs hpl
def enumA (ds : List PyData) : List Av := (List.range ds.length).map fun k => .dat (.tuple [.int (k : Nat), ds.getD k .none])
def zipA (ds es : List PyData) : List Av := (List.range ds.length).map fun k => .dat (.tuple [ds.getD k .none, es.getD k .none])
def zip3A (ds es fs : List PyData) : List Av := (List.range ds.length).map fun k => .dat (.tuple [ds.getD k .none, es.getD k .none, fs.getD k .none])
section
variable {K : PySem.W.Frag} [Tb K] {Γ : List (Option Av)} {Ω : AH} {tl : TA} {ds es fs : List PyData}
theorem rng_at {β : Type} {n i : Nat} {f : Nat → β} {b : β} (h : ((List.range n).map f)[i]? = some b) : i < n ∧ b = f i := by
  rw [List.getElem?_map] at h
  by_cases hi : i < n
  · rw [List.getElem?_range hi] at h
    cases h
    exact ⟨hi, rfl⟩
  · rw [List.getElem?_eq_none (by rw [List.length_range]; omega)] at h
    cases h
theorem getD_dq {H : Hp} {vs : List V} {i : Nat} (g : DqAll K H vs ds) (hi : i < ds.length) : ∃ v, vs[i]? = some v ∧ Dq K H v (ds.getD i .none) := by
  rw [List.getD_eq_getElem?_getD]
  have e : ds[i]? = some ds[i] := List.getElem?_eq_getElem hi
  rw [e]
  exact g.get e
theorem walk_enumT {F : Hp} {a : Addr} {xs : List V} (h : SqT K F a xs) (g : DqAll K F xs ds) : WalkA K F (Enz.IteT K a) (enumA ds) := by
  constructor
  · intro Ω H k i b e
    obtain ⟨hi, rfl⟩ := rng_at e
    obtain ⟨v, ev, hv⟩ := getD_dq g hi
    refine ⟨⟨xs, v, sqT_same (k.fr.trans Fz_le) h, ev⟩, fun x H' hy => ?_⟩
    obtain ⟨T, x2, rfl, nT, rfl, f⟩ := hy
    have := f xs (sqT_same (k.fr.trans Fz_le) h)
    rw [ev] at this
    cases this
    exact ⟨same_new nT, .dat (tup_new k nT (.cons (.int _) (.cons (hv.same k.fr) .nil)))⟩
  · intro Ω H k
    exact ⟨xs, sqT_same (k.fr.trans Fz_le) h, by rw [g.length]; simp [enumA]⟩
theorem walk_zipT {F : Hp} {a b : Addr} {xs ys : List V} (h : SqT K F a xs) (g : DqAll K F xs ds) (h2 : SqT K F b ys) (g2 : DqAll K F ys es) (hl : ds.length = es.length) : WalkA K F (RZ.ItzT K a b) (zipA ds es) := by
  constructor
  · intro Ω H k i c e
    obtain ⟨hi, rfl⟩ := rng_at e
    obtain ⟨v, ev, hv⟩ := getD_dq g hi
    obtain ⟨u, eu, hu⟩ := getD_dq g2 (i := i) (by omega)
    refine ⟨⟨xs, ys, v, u, sqT_same (k.fr.trans Fz_le) h, sqT_same (k.fr.trans Fz_le) h2, ev, eu⟩, fun x H' hy => ?_⟩
    obtain ⟨T, x2, y2, rfl, nT, rfl, f, f2⟩ := hy
    have t1 := f xs (sqT_same (k.fr.trans Fz_le) h)
    have t2 := f2 ys (sqT_same (k.fr.trans Fz_le) h2)
    rw [ev] at t1
    rw [eu] at t2
    cases t1
    cases t2
    exact ⟨same_new nT, .dat (tup_new k nT (.cons (hv.same k.fr) (.cons (hu.same k.fr) .nil)))⟩
  · intro Ω H k
    exact ⟨xs, ys, sqT_same (k.fr.trans Fz_le) h, sqT_same (k.fr.trans Fz_le) h2, .inl (by rw [g.length]; simp [zipA])⟩
theorem walk_zip3 {F : Hp} {a b c : Addr} {xs ys zs : List V} (h : SqT K F a xs) (g : DqAll K F xs ds) (h2 : SqT K F b ys) (g2 : DqAll K F ys es) (h3 : SqT K F c zs) (g3 : DqAll K F zs fs) (hl : ds.length = es.length) (hl2 : ds.length = fs.length) : WalkA K F (Enz.ItzT3 K a b c) (zip3A ds es fs) := by
  constructor
  · intro Ω H k i m e
    obtain ⟨hi, rfl⟩ := rng_at e
    obtain ⟨v, ev, hv⟩ := getD_dq g hi
    obtain ⟨u, eu, hu⟩ := getD_dq g2 (i := i) (by omega)
    obtain ⟨t, et, ht⟩ := getD_dq g3 (i := i) (by omega)
    refine ⟨⟨xs, ys, zs, v, u, t, sqT_same (k.fr.trans Fz_le) h, sqT_same (k.fr.trans Fz_le) h2, sqT_same (k.fr.trans Fz_le) h3, ev, eu, et⟩, fun x H' hy => ?_⟩
    obtain ⟨T, x2, y2, z2, rfl, nT, rfl, f, f2, f3⟩ := hy
    have t1 := f xs (sqT_same (k.fr.trans Fz_le) h)
    have t2 := f2 ys (sqT_same (k.fr.trans Fz_le) h2)
    have t3 := f3 zs (sqT_same (k.fr.trans Fz_le) h3)
    rw [ev] at t1
    rw [eu] at t2
    rw [et] at t3
    cases t1
    cases t2
    cases t3
    exact ⟨same_new nT, .dat (tup_new k nT (.cons (hv.same k.fr) (.cons (hu.same k.fr) (.cons (ht.same k.fr) .nil))))⟩
  · intro Ω H k
    have := g.length
    have := g2.length
    have := g3.length
    refine ⟨xs, ys, zs, sqT_same (k.fr.trans Fz_le) h, sqT_same (k.fr.trans Fz_le) h2, sqT_same (k.fr.trans Fz_le) h3, ?_, ?_, ?_⟩ <;> (simp [zip3A]; omega)
theorem i_enumT {P : List Av → AH → Prop} (h : AW K tl Γ Ω fun as Ω1 => ∃ ds, as = [.dat (.tuple ds)] ∧ P (enumA ds) Ω1) : IW K (Enz.iEnumT K tl) Γ Ω P := fun F σ H R k q =>
  h F σ H _ k fun as vs Ω1 H1 ⟨ds, e, hp⟩ k1 v1 => by
    subst e
    cases v1 with | cons va v1 => cases v1; cases va with | dat va => cases va with | tup hs g =>
      exact ⟨_, _, rfl, sqT_same Fz_le hs, q _ _ _ _ hp k1 (walk_enumT hs g)⟩
theorem i_zipT {P : List Av → AH → Prop} (h : AW K tl Γ Ω fun as Ω1 => ∃ ds es, as = [.dat (.tuple ds), .dat (.tuple es)] ∧ ds.length = es.length ∧ P (zipA ds es) Ω1) : IW K (RZ.iZipA K tl) Γ Ω P := fun F σ H R k q =>
  h F σ H _ k fun as vs Ω1 H1 ⟨ds, es, e, hl, hp⟩ k1 v1 => by
    subst e
    cases v1 with | cons va v1 => cases v1 with | cons vb v1 => cases v1; cases va with | dat va => cases vb with | dat vb => cases va with | tup hs g => cases vb with | tup hs2 g2 =>
      exact ⟨_, _, _, _, rfl, .inr ⟨sqT_same Fz_le hs, sqT_same Fz_le hs2, q _ _ _ _ hp k1 (walk_zipT hs g hs2 g2 hl)⟩⟩
theorem i_zip3 {P : List Av → AH → Prop} (h : AW K tl Γ Ω fun as Ω1 => ∃ ds es fs, as = [.dat (.tuple ds), .dat (.tuple es), .dat (.tuple fs)] ∧ ds.length = es.length ∧ ds.length = fs.length ∧ P (zip3A ds es fs) Ω1) : IW K (Enz.iZip3 K tl) Γ Ω P := fun F σ H R k q =>
  h F σ H _ k fun as vs Ω1 H1 ⟨ds, es, fs, e, hl, hl2, hp⟩ k1 v1 => by
    subst e
    cases v1 with | cons va v1 => cases v1 with | cons vb v1 => cases v1 with | cons vc v1 => cases v1; cases va with | dat va => cases vb with | dat vb => cases vc with | dat vc => cases va with | tup hs g => cases vb with | tup hs2 g2 => cases vc with | tup hs3 g3 =>
      exact ⟨_, _, _, _, _, _, rfl, sqT_same Fz_le hs, sqT_same Fz_le hs2, sqT_same Fz_le hs3, q _ _ _ _ hp k1 (walk_zip3 hs g hs2 g2 hs3 g3 hl hl2)⟩
/-! range(i, j, -1) -/
def rngC (lo c : Int) (n : Nat) : List Av := (List.range n).map fun k => .dat (.int (lo + (k : Nat) * c))
theorem walk_rc {F : Hp} (lo c : Int) (n : Nat) : WalkA K F (Itc lo c n) (rngC lo c n) := by
  constructor
  · intro Ω H k i b e
    obtain ⟨hi, rfl⟩ := rng_at e
    exact ⟨hi, fun x H' hy => by
      obtain ⟨rfl, rfl⟩ := hy
      exact ⟨Same.refl _, .dat (.int _)⟩⟩
  · intro Ω H k
    show n ≤ (rngC lo c n).length
    simp [rngC]
theorem i_rngD {P : List Av → AH → Prop} (h : AW K tl Γ Ω fun as Ω1 => ∃ i j : Int, as = [.dat (.int i), .dat (.int j), .dat (.int (-1))] ∧ (-(2 ^ 62) ≤ i ∧ i < 2 ^ 62 ∧ -(2 ^ 62) ≤ j ∧ j < 2 ^ 62) ∧ P (rngC i (-1) (i - j).toNat) Ω1) : IW K (iRng3 tl) Γ Ω P := fun F σ H R k q =>
  h F σ H _ k fun as vs Ω1 H1 ⟨i, j, e, b, hp⟩ k1 v1 => by
    subst e
    cases v1 with | cons va v1 => cases v1 with | cons vb v1 => cases v1 with | cons vc v1 => cases v1; cases va with | dat va => cases vb with | dat vb => cases vc with | dat vc =>
      cases va
      cases vb
      cases vc
      exact ⟨i, j, -1, _, rfl, RgC.neg b.1 b.2.1 b.2.2.1 b.2.2.2, q _ _ _ _ hp k1 (walk_rc i (-1) _)⟩
/-! lists held alone -/
variable {p : Addr} {P : Av → AH → Prop} {t : TS} {E : EndA} {te : TE}
theorem s_forget (e : Ω p = some (ds.map .dat)) (h : SW K t Γ (del Ω p) E) : SW K t Γ Ω E := fun F σ H D k e' => h F σ H D (k.frz e).1 e'
theorem e_slP {tl th : TO} (h : EW K te Γ Ω fun a Ω1 => ∃ p ds, a = .ptr p ∧ Ω1 p = some (ds.map .dat) ∧ OW K tl Γ Ω1 fun lo Ω2 => Ω2 = Ω1 ∧ OW K th Γ Ω2 fun hi Ω3 => Ω3 = Ω1 ∧ P (.dat (.list (cutD ds lo hi))) Ω3) : EW K (tSl (rSlL K) te tl th) Γ Ω P := fun F σ H Q k q =>
  h F σ H _ k fun a v Ω1 H1 ⟨p, ds, e, o, h1⟩ k1 v1 => by
    subst e
    cases v1
    refine h1 (Fz Ω1 H1) σ H1 _ k1.re fun lo Ω2 H2 ⟨e2, h2⟩ k2 => ?_
    subst e2
    refine h2 _ σ H2 _ k2.re fun hi Ω3 H3 ⟨e3, h3⟩ k3 => ?_
    subst e3
    obtain ⟨xs, hx, g⟩ := k3.st p _ o
    exact ⟨_, _, rfl, SqL.of hx, fun u nu => q _ _ _ _ h3 ((k3.anchor (k1.fr.trans k2.fr)).same (same_new nu)) (.dat (lst_new k3 nu (g.dats.cut lo hi)))⟩
/-- [x] * n -/
theorem r_repL {k : Int} (h1 : 0 ≤ k) (h2 : k ≤ 10000) (hl : ds.length ≤ 5) (h : P (.dat (.list (List.replicate k.toNat ds).flatten)) Ω) : R2W K rRep (.dat (.list ds)) (.dat (.int k)) Ω P := fun F H x y Q kk hx hy q => by
  cases hx with | dat hx => cases hy with | dat hy =>
    cases hy
    cases hx with | lst hs g =>
      have l := g.length
      have z : ds.length * k.toNat ≤ 5 * 10000 := Nat.mul_le_mul hl (by omega)
      refine ⟨_, k, _, rfl, rfl, Fz_le _ _ hs, by omega, by omega, by rw [l]; exact sz_of (by omega), fun u nu => q _ _ _ _ h (kk.same (same_new nu)) (.dat (lst_new kk nu (dqAll_flat' g _)))⟩
theorem flat_one {α : Type} (x : α) : ∀ n : Nat, (List.replicate n [x]).flatten = List.replicate n x
  | 0 => rfl
  | n + 1 => by rw [List.replicate_succ, List.flatten_cons, flat_one x n, List.replicate_succ]; rfl
/-- a new list that changes no more -/
theorem frzNew {L : List PyData} (h : P (.dat (.list L)) Ω) : ∀ q, Ω q = none → (fun a Ω' => ∃ p ds, a = .ptr p ∧ Ω' p = some (ds.map .dat) ∧ P (.dat (.list ds)) (del Ω' p)) (Av.ptr q) (put Ω q (L.map .dat)) := fun q nq =>
  ⟨q, L, rfl, put_same, by rw [del_put nq]; exact h⟩
end
end Dat

set_option Elab.async false
set_option linter.all false
set_option maxRecDepth 100000
set_option maxHeartbeats 1000000
namespace Dat
open PySem PySem.Spec PyProof.Rows L2
section
variable {K : PySem.W.Frag} [Tb K]
theorem r_ixL_any {Ω : AH} {ds : List PyData} {v : Int} {P : Av → AH → Prop} (h0 : 0 ≤ v) (h1 : v < ds.length) (h : ∀ d ∈ ds, P (.dat d) Ω) : R2W K (rIxL K) (.dat (.list ds)) (.dat (.int v)) Ω P := by
  obtain ⟨n, rfl⟩ : ∃ n : Nat, v = n := ⟨v.toNat, (Int.toNat_of_nonneg h0).symm⟩
  have hn : n < ds.length := by omega
  exact r_ixL (atI_nat' (List.getElem?_eq_getElem hn)) (h _ (List.getElem_mem hn))
def intsOf (ds : List PyData) : List Int := ds.map fun | .int i => i | _ => 0
theorem r_ixL_ints {Ω : AH} {ds : List PyData} {v : Int} {P : Av → AH → Prop} (lo hi : Int) (e : ds = (intsOf ds).map PyData.int) (hb : ∀ n ∈ intsOf ds, lo ≤ n ∧ n ≤ hi) (h0 : 0 ≤ v) (h1 : v < ds.length)
    (h : ∀ n, lo ≤ n → n ≤ hi → P (.dat (.int n)) Ω) : R2W K (rIxL K) (.dat (.list ds)) (.dat (.int v)) Ω P :=
  r_ixL_any h0 h1 fun d hd => by
    rw [e] at hd
    obtain ⟨n, hn, rfl⟩ := List.mem_map.mp hd
    exact h n (hb n hn).1 (hb n hn).2
/-- a literal list of numbers -/
def tLits : List Int → TA
  | [] => tNil
  | n :: r => tCons (tC (.int n)) (tLits r)
theorem a_lits {Γ : List (Option Av)} {Ω : AH} : ∀ (ns : List Int) {P : List Av → AH → Prop}, P ((ns.map PyData.int).map .dat) Ω → AW K (tLits ns) Γ Ω P
  | [], _, h => a_nil h
  | n :: r, _, h => a_cons (e_int (a_lits r h))
theorem e_lits {Γ : List (Option Av)} {Ω : AH} {P : Av → AH → Prop} (ns : List Int) (h : P (.dat (.list (ns.map PyData.int))) Ω) (hl : Nat.ble ns.length 100000 = true := by rfl) : EW K (tLst (tLits ns)) Γ Ω P :=
  e_lst (a_lits ns ⟨_, rfl, by rw [List.length_map]; exact Nat.le_of_ble_eq_true hl, h⟩)
theorem put_comm {Ω : AH} {p q : Addr} {as bs : List Av} (h : p ≠ q) : put (put Ω p as) q bs = put (put Ω q bs) p as := by
  refine AH.ext (fun a => ?_) rfl
  unfold put
  dsimp only
  by_cases e1 : a = q
  · by_cases e2 : a = p
    · exact absurd (e2.symm.trans e1) h
    · rw [if_pos e1, if_neg e2, if_pos e1]
  · rw [if_neg e1, if_neg e1]
end
end Dat

set_option Elab.async false
set_option linter.all false
set_option maxRecDepth 100000
set_option maxHeartbeats 1000000
/-! lambdas that hold data, handed to defs of the text -/
namespace Dat
open PySem PySem.Spec PyProof.Rows L2 LamX NdefX Clo
abbrev LSp := List PyData → ASp
def spL (K : PySem.W.Frag) [Tb K] (sp : LSp) : List (Option V) → Sp := fun ws vs H Q _ => ∃ (F : Hp) (Ω : AH) (as : List Av) (P : Av → AH → Prop) (cap : List (V × PyData)), Ok K F Ω [] [] H ∧ VAll K (Fz Ω H) as vs ∧ ws = cap.map (fun c => some c.1) ∧
  (∀ c ∈ cap, Dq K (Fz Ω H) c.1 c.2) ∧ sp (cap.map (·.2)) as Ω P ∧ ∀ a v Ω' H', P a Ω' → Ok K F Ω' [] [] H' → VOk K (Fz Ω' H') a v → Q v H'
/-- what a def promises that is given a lambda -/
abbrev CSp := Addr → Addr → List (V × PyData) → ASp
def spCl (K : PySem.W.Frag) [Tb K] (sp : CSp) (f c' : Addr) : List (Option V) → Sp := fun ws vs H Q _ => ∃ (F : Hp) (Ω : AH) (as : List Av) (P : Av → AH → Prop) (cap : List (V × PyData)), Ok K F Ω [] [] H ∧ VAll K (Fz Ω H) as vs ∧ ws = cap.map (fun c => some c.1) ∧
  sp f c' cap as Ω P ∧ ∀ a v Ω' H', P a Ω' → Ok K F Ω' [] [] H' → VOk K (Fz Ω' H') a v → Q v H'
theorem Slots.app {K : PySem.W.Frag} {F : Hp} : ∀ {Γ Γ2 : List (Option Av)} {σ σ2 : List (Option V)}, Slots K F Γ σ → Slots K F Γ2 σ2 → Slots K F (Γ ++ Γ2) (σ ++ σ2)
  | _, _, _, _, .nil, h => h
  | _, _, _, _, .no g, h => .no (Slots.app g h)
  | _, _, _, _, .yes v g, h => .yes v (Slots.app g h)
theorem Slots.ofAll {K : PySem.W.Frag} {F : Hp} : ∀ {as : List Av} {vs : List V}, VAll K F as vs → Slots K F (as.map some) (vs.map some)
  | _, _, .nil => .nil
  | _, _, .cons h g => .yes h (Slots.ofAll g)
theorem Slots.ofCap {K : PySem.W.Frag} {F : Hp} : ∀ {cap : List (V × PyData)}, (∀ c ∈ cap, Dq K F c.1 c.2) → Slots K F ((cap.map (·.2)).map fun d => some (Av.dat d)) (cap.map fun c => some c.1)
  | [], _ => .nil
  | c :: r, h => .yes (.dat (h c (List.mem_cons_self ..))) (Slots.ofCap fun x m => h x (List.mem_cons_of_mem _ m))
theorem Slots.rep {K : PySem.W.Frag} {F : Hp} : ∀ n : Nat, Slots K F (List.replicate n none) (List.replicate n none)
  | 0 => .nil
  | n + 1 => .no (Slots.rep n)
section
variable {P : Program} {w : World} {K : PySem.W.Frag} [Tb K] {mg : Str → Option Value} {base : Heap}
theorem lokA_of {N ps fr : List Str} {F : NF} {f : Addr} {k : Nat} {sp : LSp} {body : Expr} (S : NScope N ps fr F.scope) (hb : ∀ (pm ctv : Value) (us : List Value), us.length = ps.length → bindArgs (PySem.W.kla_fn F.name F.qual F.params body F.scope F.cl pm (.ref F.c) ctv) ⟨us, []⟩ = pure (ps.zip us))
    (len : ∀ cs as Ω P, sp cs as Ω P → as.length = ps.length)
    (hbody : ∀ (A : Around) (outer : List Env) (s : Shared) (H : Hp) (E : XK), Room k (A.deeper (envF F f s.heap.objs.size)) →
      ∃ t, PE (ncx CX0 P w K mg base N F f A outer s H E) body t ∧ ∀ cs as Ω P, sp cs as Ω P → EW K t (as.map some ++ ((cs.map fun d => some (Av.dat d)) ++ List.replicate (N.length - as.length - cs.length) none)) Ω P) :
    LOk P w K mg base CX0 (k + 1) f F body ps fr (spL K sp) := by
  refine lok_of S hb (fun ws vs H Q E h => ?_) (fun A outer s H vs ws Q E hr hl h => ?_)
  · obtain ⟨F0, Ω, as, P, cap, k0, va, ew, g, h, q⟩ := h
    exact va.length.trans (len _ _ _ _ h)
  · obtain ⟨t, ht, hs⟩ := hbody A outer s H E hr
    obtain ⟨F0, Ω, as, P, cap, k0, va, rfl, g, h, q⟩ := h
    refine ⟨t, ht, hs _ as Ω P h F0 _ H Q ⟨k0.fr, k0.st, ?_, k0.tb, k0.ob⟩ fun a v Ω' H' hp k' hv => q a v Ω' H' hp k'.bare hv⟩
    unfold startF
    rw [va.length, List.length_map, List.length_map]
    exact (Slots.ofAll va).app ((Slots.ofCap g).app (Slots.rep _))
theorem fncA_of {x qual : Str} {st : Stmt} {g : Addr} {gd : FuncData} {N ps : List Str} {cl : List (Str × Addr)} {fr : List Str} {k : Nat} {sp : CSp} {f c' : Addr} (F : L2.Fun K x qual st g gd) (S : FnScope N ps (defScope st))
    (hbody : ∀ (cap : List (V × PyData)) (cdv : Value) (A : Around) (outer : List Env) (s : Shared) (H : Hp) (E : XK), Room k (A.deeper (envOfC qual (defScope st) s.heap.objs.size g cdv)) → CellsAt cl fr (cap.map fun c => some c.1) s.heap H →
      ∃ t, PSs (cxOf CX0 P w K mg base N qual (defScope st) g cdv A outer s H E).nox (defBody st) t ∧ ∀ as Ω P, sp f c' cap as Ω P → SW K t (as.map some ++ List.replicate (N.length - as.length) none) Ω { nx := fun _ Ω' => P (.dat .none) Ω', rt := P }) :
    FnC P w K mg base CX0 (k + 1) g gd ps cl fr (spCl K sp f c') := by
  refine fnc_of F S fun cdv A outer s H vs ws Q E hr C h => ?_
  obtain ⟨F0, Ω, as, P, cap, k0, va, rfl, h, q⟩ := h
  obtain ⟨t, ht, hs⟩ := hbody cap cdv A outer s H E hr C
  refine ⟨t, ht, hs as Ω P h F0 (L2.start N vs) H _ ⟨k0.fr, k0.st, ?_, k0.tb, k0.ob⟩ ⟨fun Γ' σ' Ω' H' hp k' => q _ _ _ _ hp k'.bare (.dat .non), fun a v Ω' H' hp k' hv => q _ _ _ _ hp k' hv, fun _ _ _ _ z => z.elim, fun _ _ _ _ z => z.elim⟩⟩
  unfold L2.start
  rw [va.length]
  exact Slots.start (N := N) va _
/-- a def whose code object is known -/
structure DefC (K : PySem.W.Frag) (mg : Str → Option Value) (x : Str) (st : Stmt) (ps : List Str) (dvs : List V) (f : Addr) (fd : FuncData) (cw : Addr) : Prop where
  ex : ∃ (oc : Value) (od : Option Addr) (dV kV doc pm : Value) (an : Option Addr) (ct : Value) (osl : Array (Option Value)), fd = PySem.W.fnOf x x (defArgs st) (defBody st) (defScope st) dV kV doc pm an (.ref cw) ct ∧ K.lookup f = some ⟨oc, od, .func fd, osl⟩ ∧ PySem.W.codeIn K (.ref cw) x = true
  g : mg x = some (.ref f)
  kp : PySem.W.keepIn K (.ref f) = true
  b : ∃ ds, Vals dvs ds ∧ Binds K fd ps ds
theorem fnA_okC {x : Str} {st : Stmt} {f : Addr} {fd : FuncData} {N ps : List Str} {dvs : List V} {k : Nat} {sp : ASp} {cw : Addr} (D : DefC K mg x st ps dvs f fd cw) (S : FnScope N ps (defScope st)) (len : ∀ as Ω P, sp as Ω P → as.length = ps.length)
    (hbody : ∀ (A : Around) (outer : List Env) (s : Shared) (H : Hp) (E : XK), Room k (A.deeper (envOfC x (defScope st) s.heap.objs.size f (.ref cw))) →
      ∃ t, PSs (cxOf CX0 P w K mg base N x (defScope st) f (.ref cw) A outer s H E) (defBody st) t ∧ ∀ as Ω P, sp as Ω P → SW K t (as.map some ++ List.replicate (N.length - as.length) none) Ω { nx := fun _ Ω' => P (.dat .none) Ω', rt := P }) :
    FnOk P w K mg base CX0 (k + 1) f fd ps (spA K sp) := by
  obtain ⟨oc, od, dV, kV, doc, pm, an, ct, osl, rfl, lk, hcd⟩ := D.ex
  refine fn_of lk hcd S (spA_len len) fun A outer s H vs Q E hr h => ?_
  obtain ⟨t, ht, hs⟩ := hbody A outer s H E hr
  obtain ⟨F0, Ω, as, P, k0, va, h, hq⟩ := h
  refine ⟨t, ht, hs as Ω P h F0 (L2.start N vs) H _ ⟨k0.fr, k0.st, ?_, k0.tb, k0.ob⟩ ⟨fun Γ' σ' Ω' H' hp k' => hq _ _ _ _ hp k'.bare (.dat .non), fun a v Ω' H' hp k' hv => hq _ _ _ _ hp k' hv, fun _ _ _ _ z => z.elim, fun _ _ _ _ z => z.elim⟩⟩
  unfold L2.start
  rw [va.length]
  exact Slots.start (N := N) va _
end
section
variable {K : PySem.W.Frag} [Tb K] {Γ : List (Option Av)} {Ω : AH} {P : Av → AH → Prop} {ta tc : TE} {t : TA} {i j : Nat} {f c' : Addr} {F : NF} {body : Expr} {sp : LSp} {E : XK} {cap : List (V × PyData)}
theorem e_held (e : Γ[i]? = some (some (.fn f [(f, LamO f F body), (F.c, CodeO F.c F.qual)] cap))) (h : AW K t Γ Ω fun as Ω1 => sp (cap.map (·.2)) as Ω1 P) : EW K (tHeld i f F body (cap.map fun c => some c.1) (spL K sp) E t) Γ Ω P := fun F0 σ H Q k q => by
  obtain ⟨v, ev, hv⟩ := k.val e
  cases hv with
  | fn ho hg =>
    have m1 : (f, LamO f F body) ∈ [(f, LamO f F body), (F.c, CodeO F.c F.qual)] := List.mem_cons_self ..
    have m2 : (F.c, CodeO F.c F.qual) ∈ [(f, LamO f F body), (F.c, CodeO F.c F.qual)] := List.mem_cons_of_mem _ (List.mem_cons_self ..)
    refine ⟨ev, Fz_le _ _ (ho _ m1), h (Fz Ω H) σ H _ k.re fun as vs Ω1 H1 h1 k1 v1 => ?_⟩
    exact ⟨Fz_le _ _ (k1.fr _ _ (ho _ m1)), Fz_le _ _ (k1.fr _ _ (ho _ m2)), Fz Ω1 H1, Ω1, as, P, cap, k1.bare.re, v1, rfl, fun c m => (hg c m).same k1.fr, h1, fun a v Ω' H' hp k' hv => q a v Ω' H' hp ((k1.anchor k.fr).back k') hv⟩
/-- g(a, lambda, c): the lambda holds one name of the running frame -/
theorem e_callL {q : Str} {mk : Addr → NF} {sp : CSp} {d : PyData} (hc : ∀ c', (mk c').c = c') (hq : ∀ c', (mk c').qual = q) (e : Γ[j]? = some (some (.dat d)))
    (h : EW K ta Γ Ω fun a Ω1 => EW K tc Γ Ω1 fun c Ω2 => ∀ f c' sv, sp f c' [(sv, d)] [a, .fn f [(f, LamO f (mk c') body), ((mk c').c, CodeO (mk c').c (mk c').qual)] [(sv, d)], c] Ω2 P) :
    EW K (tCallC [j] (spCl K sp) E (tCons ta (tCons (tLamE (Tb.T (K := K)) q mk body) (tCons tc tNil)))) Γ Ω P := fun F σ H Q k r =>
  h F σ H _ k fun a v Ω1 H1 h1 k1 v1 => ⟨k1.tb, fun f c' Hl x1 nn hT1 nf ef ec => by
    have kl := k1.ext x1 hT1
    refine h1 (Fz Ω1 Hl) σ Hl _ kl.re fun c u Ω2 H2 h2 k2 v2 => ?_
    obtain ⟨sv, esv, hsv⟩ := k2.val e
    have nf1 : Ω1.Off f := k1.off nf
    have nc1 : Ω1.Off c' := by
      constructor
      · cases z : Ω1 c' with
        | none => rfl
        | some as =>
          obtain ⟨xs, e1, _⟩ := kl.st c' as z
          rw [ec] at e1
          cases e1
      · cases z : Ω1.o c' with
        | none => rfl
        | some u =>
          obtain ⟨y, e1, e2⟩ := kl.ob c' u z
          rw [ec] at e1
          cases e1
          exact absurd rfl (e2.ncode _ _)
    have g1 : Fz Ω2 H2 f = some (LamO f (mk c') body) := k2.fr _ _ (Fz_to nf1 ef fun q z => by cases z)
    have g2 : Fz Ω2 H2 c' = some (CodeO c' q) := k2.fr _ _ (Fz_to nc1 ec fun q z => by cases z)
    refine ⟨f, c', Fz Ω2 H2, Ω2, _, P, [(sv, d)], k2.bare.re, .cons ((v1.same (Fz_ext x1)).same k2.fr) (.cons (.fn (fun p m => ?_) fun c m => ?_) (.cons v2 .nil)), ?_, h2 f c' sv, fun a v Ω' H' hp k' hv => r a v Ω' H' hp ((k2.anchor kl.fr).back k') hv⟩
    · rw [List.mem_cons, List.mem_singleton] at m
      rcases m with rfl | rfl
      · exact g1
      · show Fz Ω2 H2 (mk c').c = some (CodeO (mk c').c (mk c').qual)
        rw [hc, hq]
        exact g2
    · rw [List.mem_singleton] at m
      subst m
      cases hsv with | dat hd => exact hd
    · show [NdefX.slotAt σ j] = [some sv]
      unfold NdefX.slotAt
      rw [esv]⟩
/-- a list that is to change no more -/
theorem Slots.same' {F : Hp} {Γ : List (Option Av)} {σ : List (Option V)} {p : Addr} {d : PyData} : ∀ {Γ : List (Option Av)} {σ : List (Option V)} (i : Nat), Slots K F Γ σ → Γ[i]? = some (some (.ptr p)) → Dq K F (.ref p) d → Slots K F (Γ.set i (some (.dat d))) σ
  | _, _, _, .nil, e, _ => by simp at e
  | _, _, 0, .no _, e, _ => by simp at e
  | _, _, 0, .yes h g, e, hd => by
    rw [List.getElem?_cons_zero] at e
    cases e
    cases h
    exact .yes (.dat hd) g
  | _, _, i + 1, .no g, e, hd => by
    rw [List.getElem?_cons_succ] at e
    exact .no (Slots.same' (Γ := Γ) (σ := σ) i g e hd)
  | _, _, i + 1, .yes h g, e, hd => by
    rw [List.getElem?_cons_succ] at e
    exact .yes h (Slots.same' (Γ := Γ) (σ := σ) i g e hd)
theorem s_frz {t : TS} {E : EndA} {p : Addr} {ds : List PyData} (i : Nat) (es : Γ[i]? = some (some (.ptr p))) (e : Ω p = some (ds.map .dat)) (h : SW K t (Γ.set i (some (.dat (.list ds)))) (del Ω p) E) : SW K t Γ Ω E := fun F σ H D k e' => by
  obtain ⟨k2, d2⟩ := k.frz e
  exact h F σ H D ⟨k2.fr, k2.st, Slots.same' (Γ := Γ) (σ := σ) i k2.sl es d2, k2.tb, k2.ob⟩ e'
end
end Dat

set_option Elab.async false
set_option linter.all false
set_option maxRecDepth 100000
set_option maxHeartbeats 1000000
namespace Dat
open PySem PySem.Spec PyProof.Rows L2
/-! truths of values; list.pop(0), list.index, enumerate of a list -/
def tTru (K : PySem.W.Frag) (ta : TE) : TT := fun σ H Q => ta σ H fun x H' => ∃ k, TruV K x H' k ∧ Q k H'
section
variable {X : Cx} {K : PySem.W.Frag}
theorem truQ {a : Expr} {ta : TE} (hK : X.K = K) (ha : PE X a ta) (he : ∀ whole, isTrue a X.env whole = (do let v ← whole; standAt a.pos; holding [v] (truthy v)) := by intro _; rfl) : PT X a (tTru K ta) := by
  subst hK
  exact pt_truth ha he
theorem popAtQ {o e : Expr} {to : TE} {t : TA} {apos cpos : Pos} (hK : X.K = K) (ho : PE X o to) (ha : PA X [e] t)
    (hbase : attributeBase o "pop" X.env (eval o X.env) = eval o X.env := by rfl)
    (hfew : ((backTo cpos (starEach [e] X.env)).all (fun x => !x.1) && (backToKw cpos (keywordEach [] X.env)).all (fun x => x.1.isSome)
      && decide ([e].length + ([] : List Keyword).length + (if ([] : List Keyword).isEmpty then 0 else 1) < 30)) = true := by rfl)
    (hline : (apos.endLine == cpos.line) = true := by rfl) (hs : starEach [e] X.env = (false, eval e X.env) :: starEach [] X.env := by rfl) (hplain : (backTo cpos (starEach [] X.env)).any (·.1) = false := by rfl) :
    PE X (.Call (.Attribute o "pop" apos) [e] [] cpos) (tBM K "list" rPopAt to t) := by
  subst hK
  exact pe_bm PySem.F.plainAttrs_list PySem.F.slot_list_pop PySem.F.type_list_pop mt_popAt ho ha hbase hfew hline hs hplain
theorem indexQ {o e : Expr} {to : TE} {t : TA} {apos cpos : Pos} (hK : X.K = K) (ho : PE X o to) (ha : PA X [e] t)
    (hbase : attributeBase o "index" X.env (eval o X.env) = eval o X.env := by rfl)
    (hfew : ((backTo cpos (starEach [e] X.env)).all (fun x => !x.1) && (backToKw cpos (keywordEach [] X.env)).all (fun x => x.1.isSome)
      && decide ([e].length + ([] : List Keyword).length + (if ([] : List Keyword).isEmpty then 0 else 1) < 30)) = true := by rfl)
    (hline : (apos.endLine == cpos.line) = true := by rfl) (hs : starEach [e] X.env = (false, eval e X.env) :: starEach [] X.env := by rfl) (hplain : (backTo cpos (starEach [] X.env)).any (·.1) = false := by rfl) :
    PE X (.Call (.Attribute o "index" apos) [e] [] cpos) (tBM K "list" (rIndex K) to t) := by
  subst hK
  exact pe_bm PySem.F.plainAttrs_list PySem.F.slot_list_index PySem.F.type_list_index mt_index ho ha hbase hfew hline hs hplain
end
section
variable {K : PySem.W.Frag} [Tb K] {Γ : List (Option Av)} {Ω : AH} {ta : TE} {tl : TA} {ds es fs : List PyData}
theorem DqAll.emp {H : Hp} {vs : List V} (g : DqAll K H vs ds) : (!ds.isEmpty) = !vs.isEmpty := by
  cases g <;> rfl
theorem t_truT {P : Bool → AH → Prop} (h : EW K ta Γ Ω fun a Ω1 => ∃ ds, a = .dat (.tuple ds) ∧ P (!ds.isEmpty) Ω1) : TW K (tTru K ta) Γ Ω P := fun F σ H Q k q =>
  h F σ H _ k fun a v Ω' H' ⟨ds, e, hp⟩ k' hv => by
    subst e
    cases hv with
    | dat hv =>
      cases hv with
      | tup hs g =>
        refine ⟨_, .inr (.inl ⟨_, sqT_same Fz_le hs, rfl⟩), ?_⟩
        rw [← g.emp]
        exact q _ Ω' H' hp k'
theorem e_pop0 {P : Av → AH → Prop} (h : EW K ta Γ Ω fun a Ω1 => ∃ p, a = .ptr p ∧ (∃ bs, Ω1 p = some bs) ∧ AW K tl Γ Ω1 fun cs Ω2 => ∃ b as, cs = [.dat (.int 0)] ∧ Ω2 p = some (b :: as) ∧ P b (put Ω2 p as)) : EW K (tBM K "list" rPopAt ta tl) Γ Ω P := fun F σ H Q k q =>
  h F σ H _ k fun a v Ω1 H1 ⟨p, ea, ⟨bs, eb⟩, h1⟩ k1 v1 => by
    subst ea
    cases v1
    obtain ⟨zs, hz, _⟩ := k1.st p bs eb
    refine ⟨.inl ⟨rfl, _, SqL.of hz⟩, h1 F σ H1 _ k1 fun cs vs Ω2 H2 ⟨b, as, ec, e2, hp⟩ k2 v2 => ?_⟩
    subst ec
    cases v2 with | cons vb v2 =>
      cases v2
      cases vb with | dat vb =>
      cases vb
      obtain ⟨xs, hx, g⟩ := k2.st p _ e2
      cases g with | cons hb g =>
      rename_i y ys
      refine ⟨p, _, 0, 0, y, rfl, rfl, hx, by decide, by decide, ?_, rfl, ?_⟩
      · simp [seqIndex?]
      · have k3 := k2.put e2 g
        have e3 : Fz (put Ω2 p as) (upd H2 p (.lst ys)) = Fz Ω2 H2 := Fz_put e2
        exact q _ _ _ _ hp k3 (by show VOk K (Fz _ (upd H2 p (.lst ys))) b y; rw [e3]; exact hb)
theorem e_idx {P : Av → AH → Prop} (h : EW K ta Γ Ω fun a Ω1 => ∃ ds, a = .dat (.list ds) ∧ ds.all canFlat = true ∧ AW K tl Γ Ω1 fun cs Ω2 => ∃ d e j, cs = [.dat d] ∧ canFlat d = true ∧ ds[j]? = some e ∧ PyData.eqv e d = true ∧ (∀ m e', m < j → ds[m]? = some e' → PyData.eqv e' d = false) ∧ P (.dat (.int (j : Nat))) Ω2) : EW K (tBM K "list" (rIndex K) ta tl) Γ Ω P := fun F σ H Q k q =>
  h F σ H _ k fun a v Ω1 H1 ⟨ds, ea, ef, h1⟩ k1 v1 => by
    subst ea
    cases v1 with | dat v1 =>
    cases v1 with | lst hs g =>
    refine ⟨.inl ⟨rfl, _, SqL.of (Fz_le _ _ hs)⟩, h1 (Fz Ω1 H1) σ H1 _ k1.re fun cs vs Ω2 H2 ⟨d, e, j, ec, fd, ej, ev, no, hp⟩ k2 v2 => ?_⟩
    subst ec
    cases v2 with | cons vb v2 =>
      cases v2
      cases vb with | dat vb =>
      have g2 := g.same k2.fr
      obtain ⟨z, ez, hz⟩ := g2.get ej
      have fe : canFlat e = true := List.all_eq_true.mp ef e (List.mem_of_getElem? ej)
      refine ⟨_, _, _, j, z, rfl, rfl, SqL.of (Fz_le _ _ (k2.fr _ _ hs)), dq_flat vb fd, dqAll_flat g2 ef, ez, by rw [dq_eqv hz vb fe fd]; exact ev, fun m z' hm ez' => ?_, q _ _ _ _ hp (k2.anchor k1.fr) (.dat (.int _))⟩
      obtain ⟨e', ee, he⟩ := g2.getV ez'
      rw [dq_eqv he vb (List.all_eq_true.mp ef e' (List.mem_of_getElem? ee)) fd]
      exact no m e' hm ee
theorem walk_enumL {F : Hp} {a : Addr} {xs : List V} (h : F a = some (.lst xs)) (g : DqAll K F xs ds) : WalkA K F (L2.Ite K a) (enumA ds) := by
  constructor
  · intro Ω H k i b e
    obtain ⟨hi, rfl⟩ := rng_at e
    obtain ⟨v, ev, hv⟩ := getD_dq g hi
    refine ⟨⟨xs, v, SqL.of (k.fr.trans Fz_le _ _ h), ev⟩, fun x H' hy => ?_⟩
    obtain ⟨T, x2, rfl, nT, rfl, f⟩ := hy
    have := f xs (SqL.of (k.fr.trans Fz_le _ _ h))
    rw [ev] at this
    cases this
    exact ⟨same_new nT, .dat (tup_new k nT (.cons (.int _) (.cons (hv.same k.fr) .nil)))⟩
  · intro Ω H k
    exact ⟨xs, SqL.of (k.fr.trans Fz_le _ _ h), by rw [g.length]; simp [enumA]⟩
theorem i_enumL {P : List Av → AH → Prop} (h : AW K tl Γ Ω fun as Ω1 => ∃ ds, as = [.dat (.list ds)] ∧ P (enumA ds) Ω1) : IW K (iEnum K tl) Γ Ω P := fun F σ H R k q =>
  h F σ H _ k fun as vs Ω1 H1 ⟨ds, e, hp⟩ k1 v1 => by
    subst e
    cases v1 with | cons v1 v2 =>
      cases v2
      cases v1 with | dat v1 =>
        cases v1 with | lst hs g =>
          exact ⟨_, _, rfl, SqL.of (Fz_le _ _ hs), q _ _ _ _ hp k1 (walk_enumL hs g)⟩
theorem enumA_at {ds : List PyData} {i : Nat} {a : Av} (h : (enumA ds)[i]? = some a) : ∃ d, ds[i]? = some d ∧ a = .dat (.tuple [.int (i : Nat), d]) := by
  obtain ⟨hi, rfl⟩ := rng_at h
  exact ⟨ds[i], List.getElem?_eq_getElem hi, by rw [List.getD_eq_getElem?_getD, List.getElem?_eq_getElem hi]; rfl⟩
theorem enumA_len {ds : List PyData} : (enumA ds).length = ds.length := by
  unfold enumA
  rw [List.length_map, List.length_range]
end
end Dat

set_option Elab.async false
set_option linter.all false
set_option maxRecDepth 100000
set_option maxHeartbeats 1000000
namespace Dat
open PySem PySem.Spec PyProof.Rows L2
theorem pgLQ {X : Cx} {K : PySem.W.Frag} {es : List Expr} {k : Nat} {t : TGs} {n : Nat} {pos : Pos} (hK : X.K = K) (hc : X.calm = true) (h : PGs X es t)
    (hn : (assignEach es X.env).length = n := by rfl) (hst : (assignEach es X.env).findIdx? (·.1) = none := by rfl) : PG X (.Tuple es k pos) (gLst K n t) := by subst hK; exact pg_lst hc h hn hst
abbrev IsI (i : Int) (Ω : AH) : Av → AH → Prop := fun a Ω' => a = .dat (.int i) ∧ Ω' = Ω
section
variable {K : PySem.W.Frag} [Tb K] {Γ : List (Option Av)} {Ω : AH} {gs : TGs} {ds : List PyData} {ta tb tc : TE}
theorem g_lst {n : Nat} {P : List (Option Av) → AH → Prop} (l : ds.length = n) (h : GsW K gs (ds.map .dat) Γ Ω P) : GW K (gLst K n gs) (.dat (.list ds)) Γ Ω P := fun F σ H v Q k hv q => by
  cases hv with | dat hv => cases hv with | lst hs g => exact ⟨_, _, rfl, SqL.of (Fz_le _ _ hs), g.length.trans l, h F σ H _ Q k (.ofDats g) q⟩
theorem e_chainB {lo x hi : Int} (h1 : EW K ta Γ Ω (IsI lo Ω)) (h2 : EW K tb Γ Ω (IsI x Ω)) (h3 : EW K tc Γ Ω (IsI hi Ω)) :
    EW K (tChain (rI0 fun i j => .bl (decide (i ≤ j))) (rI0 fun i j => .bl (decide (i ≤ j))) ta tb tc) Γ Ω (IsB (decide (lo ≤ x) && decide (x ≤ hi)) Ω) :=
  e_chain (h1.mono fun a Ω1 ⟨e1, o1⟩ => by
    subst e1 o1
    exact h2.mono fun b Ω2 ⟨e2, o2⟩ => by
      subst e2 o2
      refine r_I0b ⟨_, rfl, fun z => ?_, fun z => ?_⟩
      · exact h3.mono fun d Ω3 ⟨e3, o3⟩ => by
          subst e3 o3
          exact r_I0b ⟨by rw [z, Bool.true_and], rfl⟩
      · exact ⟨by rw [z, Bool.false_and], rfl⟩)
end
section
variable {K : PySem.W.Frag} [Tb K] {Γ : List (Option Av)} {Ω : AH} {tl : TA} {E : EndA}
theorem s_par3 {i j m : Nat} (h : AW K tl Γ Ω fun as Ω1 => ∃ a b c, as = [a, b, c] ∧ E.nx (((Γ.set i (some a)).set j (some b)).set m (some c)) Ω1) : SW K (tPar3 i j m tl) Γ Ω E := fun F σ H D k e =>
  h F σ H _ k fun as vs Ω1 H1 ⟨a, b, c, ea, hp⟩ k1 v1 => by
    subst ea
    cases v1 with | cons va v1 => cases v1 with | cons vb v1 => cases v1 with | cons vc v1 =>
      cases v1
      exact ⟨_, _, _, rfl, e.nx _ _ _ _ hp (((k1.set va i).set vb j).set vc m)⟩
end
theorem eqv_nil : ∀ {ds : List PyData}, PyData.eqv (.list ds) (.list []) = ds.isEmpty
  | [] => by simp [PyData.eqv, PyData.eqvAll]
  | _ :: _ => by simp [PyData.eqv, PyData.eqvAll]
structure Lay (d : PyData) (k : Nat) : Prop where
  c : d.canLay0 = true
  k : d.depth ≤ k
theorem layAll : ∀ {ds : List PyData} {k : Nat}, (∀ d ∈ ds, Lay d k) → PyData.canLayAll0 ds = true ∧ PyData.depthAll ds ≤ k
  | [], _, _ => ⟨by simp [PyData.canLayAll0], by simp [PyData.depthAll]⟩
  | d :: r, k, h => by
    have h1 := h d List.mem_cons_self
    have h2 := layAll (ds := r) (k := k) fun y m => h y (List.mem_cons_of_mem _ m)
    refine ⟨by simp [PyData.canLayAll0, h1.c, h2.1], ?_⟩
    simp only [PyData.depthAll]
    exact Nat.max_le.mpr ⟨h1.k, h2.2⟩
theorem Lay.tup {ds : List PyData} {k : Nat} (h : ∀ d ∈ ds, Lay d k) : Lay (.tuple ds) (k + 1) := by
  obtain ⟨a, b⟩ := layAll h
  exact ⟨by simp only [PyData.canLay0, a], by simp only [PyData.depth]; omega⟩
theorem Lay.lst {ds : List PyData} {k : Nat} (h : ∀ d ∈ ds, Lay d k) : Lay (.list ds) (k + 1) := by
  obtain ⟨a, b⟩ := layAll h
  exact ⟨by simp only [PyData.canLay0, a], by simp only [PyData.depth]; omega⟩
theorem Lay.int (i : Int) : Lay (.int i) 0 := ⟨by simp [PyData.canLay0], by simp [PyData.depth]⟩
theorem Lay.mono {d : PyData} {k j : Nat} (h : Lay d k) (l : k ≤ j) : Lay d j := ⟨h.c, Nat.le_trans h.k l⟩
theorem Lay.shaped {d : PyData} {k : Nat} (h : Lay d k) (l : k ≤ 64) : SeqAt.shaped d = true := by
  rw [SeqAt.shaped, Bool.and_eq_true, decide_eq_true_eq]
  exact ⟨h.c, Nat.le_trans h.k l⟩
theorem lay_map {α : Type} {f : α → PyData} {xs : List α} {k : Nat} (h : ∀ x ∈ xs, Lay (f x) k) : ∀ d ∈ xs.map f, Lay d k := fun d hd => by
  obtain ⟨x, hx, rfl⟩ := List.mem_map.mp hd
  exact h x hx
theorem Lay.str {x : Str} (h : PyData.strOk x = true) : Lay (.str x) 0 := ⟨by simp [PyData.canLay0, h], by simp [PyData.depth]⟩
theorem Lay.none : Lay .none 0 := ⟨by simp [PyData.canLay0], by simp [PyData.depth]⟩
theorem lay_ints (ns : List Int) : ∀ d ∈ ns.map PyData.int, Lay d 0 := lay_map fun i _ => Lay.int i
theorem eqv_lay {d : PyData} {k : Nat} (h : Lay d k) : PyData.eqv d d = true := SeqAt.eqv_refl _ h.c
theorem sh_ints (ns : List Int) : SeqAt.shaped (.list (ns.map PyData.int)) = true := (Lay.lst (lay_ints ns)).shaped (by decide)
end Dat

set_option Elab.async false
set_option linter.all false
set_option maxRecDepth 100000
set_option maxHeartbeats 2000000
/-! zip of a tuple and a list -/
namespace Enz
open PySem PySem.Spec PyProof.Rows L2
def ItzTL (K : PySem.W.Frag) (a b : Addr) : It :=
  ⟨fun i H => ∃ (xs ys : List V) (x y : V), SqT K H a xs ∧ SqL K H b ys ∧ xs[i]? = some x ∧ ys[i]? = some y,
    fun i H v H' => ∃ T x y, v = .ref T ∧ H T = none ∧ H' = upd H T (.tup [x, y]) ∧ (∀ xs, SqT K H a xs → xs[i]? = some x) ∧ ∀ ys, SqL K H b ys → ys[i]? = some y,
    fun i H => ∃ xs ys : List V, SqT K H a xs ∧ SqL K H b ys ∧ xs.length = i ∧ ys.length = i⟩
theorem turn_zipTL {P : Program} {w : World} {K : PySem.W.Frag} {elts : List Expr} {kk : Nat} {tpos : Pos} {a b z TI TO i1 i2 : Addr} (D : ZipSep2 z TI TO i1 i2 [i1, a] [i2, b]) (na : a ≠ i1) (nb : b ≠ i2) :
    Turn P w K (.Tuple elts kk tpos) (ItzTL K a b) [z, TI, TO, i1, i2] z (fun i h => IsZip h z TI TO .none ∧ IsTupOf2 h TI (.ref i1) (.ref i2) ∧ (∃ x y, IsTupOf2 h TO x y) ∧ h.IsTupleIter i1 a i ∧ h.IsListIter i2 b i) where
  mem := by simp
  obj := fun i h st m hm => by
    obtain ⟨hz, hTI, ⟨x, y, hTO⟩, ⟨o1, e1, _, d1⟩, ⟨o2, e2, _, d2⟩⟩ := st
    rcases (by simpa using hm : m = z ∨ m = TI ∨ m = TO ∨ m = i1 ∨ m = i2) with q | q | q | q | q
    · rw [q]; exact ⟨_, hz, fun v q => nomatch q⟩
    · rw [q]; exact ⟨_, hTI, fun v q => nomatch q⟩
    · rw [q]; exact ⟨_, hTO, fun v q => nomatch q⟩
    · rw [q]; exact ⟨o1, e1, fun v q => by rw [d1] at q; cases q⟩
    · rw [q]; exact ⟨o2, e2, fun v q => by rw [d2] at q; cases q⟩
  keep := fun i h h' st k => by
    obtain ⟨hz, hTI, ⟨x, y, hTO⟩, h1, h2⟩ := st
    exact ⟨k z (by simp) _ hz, k TI (by simp) _ hTI, ⟨x, y, k TO (by simp) _ hTO⟩, h1.at fun o q => k i1 (by simp) o q, h2.at fun o q => k i2 (by simp) o q⟩
  item := by
    intro X hP hw hK hc i pins s σ H E I hf st hg
    subst hP hw hK
    obtain ⟨hz, hTI, ⟨x0, y0, hTO⟩, h1, h2⟩ := st
    obtain ⟨xs, ys, x, y, hqx, hqy, hx, hy⟩ := hg
    obtain ⟨its, rv, p1, _⟩ := I.tuple hqx; obtain ⟨jts, rw2, p2, _⟩ := I.list hqy
    obtain ⟨u1, hu1, ru1⟩ := rv.get hx; obtain ⟨u2, hu2, ru2⟩ := rw2.get hy
    have l1 : i < its.length := (List.getElem?_eq_some_iff.mp hu1).1; have l2 : i < jts.length := (List.getElem?_eq_some_iff.mp hu2).1
    have nh : X.A.in1.handled = none := by simp [I.ok.hd hc]
    have dw1 := Draws.tuple (prog := X.prog) (w := X.w) (A := X.A.in1) nh i1 a na its.toArray
    have dw2 := Draws.list (prog := X.prog) (w := X.w) (A := X.A.in1) nh i2 b nb jts.toArray
    have zl : z < s.heap.objs.size := Heap.lt_size hz
    refine wpAny_pyNext_zipD2_item D dw1 dw2 hz hTI hTO ⟨h1, p1⟩ ⟨h2, p2.isList⟩ (by simpa using l1) (by simpa using l2) fun v1 v2 g tk q1 q2 z' TO' s1 s2 hT sz k => ?_
    have e1 := pick hu1 q1; have e2 := pick hu2 q2
    subst e1; subst e2
    refine ⟨_, rfl, wpAny_letOwnedTupleGo_zip (s := { s with heap := g, toks := tk }) z' fun g2 z'' sb => ?_⟩
    have hT2 : g2.get? s.heap.objs.size = some { cls := .type "tuple", data := .seq #[v1, v2] } := (sb.2 _ (Nat.ne_of_gt zl)).trans hT
    have new : ObjOk X.prog X.w (upd H s.heap.objs.size (.tup [x, y])) g2 s.heap.objs.size (.tup [x, y]) :=
      ⟨by show 2 ≤ sizeLine; decide, [v1, v2], .cons ru1 (.cons ru2 .nil), ⟨_, hT2, rfl, _, rfl⟩⟩
    have I2 : Inv X pins σ (upd H s.heap.objs.size (.tup [x, y])) { s with heap := g2, toks := tk } :=
      I.turnedNew (t' := tk) (ch := [z, TI, TO, i1, i2]) (fun m o hb q => (sb.2 m (fun q' => hb (by simp [q']))).trans (k m o (fun q' => hb (by simp [q'])) (fun q' => hb (by simp [q'])) (fun q' => hb (by simp [q'])) (fun q' => hb (by simp [q'])) q)) hf (Nat.le_refl _) new
    refine ⟨.ref s.heap.objs.size, _, I2, rfl, ⟨_, x, y, rfl, I.hok.fresh (Nat.le_refl _), rfl, fun l hl => by rw [I.tuple_inj hl hqx]; exact hx, fun l hl => by rw [I.list_inj hl hqy]; exact hy⟩, ⟨z'', ?_, ⟨v1, v2, ?_⟩, ?_, ?_⟩, fun m hm => ?_⟩
    · exact (sb.2 _ D.TIz).trans (k _ _ D.TIz D.TITO D.TIi1 D.TIi2 hTI)
    · exact (sb.2 _ D.TOz).trans TO'
    · exact s1.1.at fun o q => (sb.2 _ D.zi1.symm).trans q
    · exact s2.1.at fun o q => (sb.2 _ D.zi2.symm).trans q
    · have lm : m < s.heap.objs.size := by
        rcases (by simpa using hm : m = z ∨ m = TI ∨ m = TO ∨ m = i1 ∨ m = i2) with q | q | q | q | q
        · rw [q]; exact zl
        · rw [q]; exact Heap.lt_size hTI
        · rw [q]; exact Heap.lt_size hTO
        · rw [q]; obtain ⟨_, w1, _⟩ := h1; exact Heap.lt_size w1
        · rw [q]; obtain ⟨_, w1, _⟩ := h2; exact Heap.lt_size w1
      rw [upd_ne (Nat.ne_of_lt lm)]; exact (hf m hm).1
  done := by
    intro X hP hw hK hc i pins s σ H E I hf st hg
    subst hP hw hK
    obtain ⟨hz, hTI, ⟨x0, y0, hTO⟩, h1, h2⟩ := st
    obtain ⟨xs, ys, hqx, hqy, ln1, ln2⟩ := hg
    obtain ⟨its, rv, p1, _⟩ := I.tuple hqx; obtain ⟨jts, rw2, p2, _⟩ := I.list hqy
    have m1 := rv.length; have m2 := rw2.length
    have nh : X.A.in1.handled = none := by simp [I.ok.hd hc]
    have dw1 := Draws.tuple (prog := X.prog) (w := X.w) (A := X.A.in1) nh i1 a na its.toArray
    have dw2 := Draws.list (prog := X.prog) (w := X.w) (A := X.A.in1) nh i2 b nb jts.toArray
    exact wpAny_pyNext_zipD2_end D dw1 dw2 hz hTI hTO ⟨h1, p1⟩ ⟨h2, p2.isList⟩ (by simp; omega) (by simp; omega) (.inl (by simp; omega)) fun g tk k => ⟨rfl, I.turnedL (t' := tk) (ch := [z, TI, TO, i1, i2]) (fun m o hb q =>
      k m o (fun q' => hb (by simp [q'])) (fun q' => hb (by simp [q'])) (fun q' => hb (by simp [q'])) (fun q' => hb (by simp [q'])) q) hf⟩
  self := fun A i s Q E st h => wpAny_pyIter_zip st.1 h
def iZipTL (K : PySem.W.Frag) (ta : TA) : TI := fun σ H R => ta σ H fun vs H1 => ∃ a b xs ys, vs = [.ref a, .ref b] ∧ SqT K H1 a xs ∧ SqL K H1 b ys ∧ R (ItzTL K a b) H1
theorem pi_zipTL {X : Cx} {e e2 : Expr} {ta : TA} {p pos tpos : Pos} {elts : List Expr} {kk : Nat} (hg : Gl X "zip") (hm : X.mg "zip" = none) (ha : PA X [e, e2] ta)
    (hs : starEach [e, e2] X.env = (false, eval e X.env) :: starEach [e2] X.env := by rfl) (hpl : (backTo pos (starEach [e2] X.env)).any (·.1) = false := by rfl) :
    PI X (.Tuple elts kk tpos) (.Call (.Name "zip" p) [e, e2] [] pos) (iZipTL X.K ta) := by
  refine ⟨fun pins s σ H R I h => Call_ (ld_blt I hg hm PyProof.Rows.boot_zip (PyProof.Rows.callWith_type1 (thn (ha.run pos pins s σ H _ I h) fun us s1 ⟨vs, H1, I1, r1, q1⟩ => ?_) hs hpl))⟩
  obtain ⟨a, b, xs, ys, ex, hqa, hqb, q⟩ := q1
  subst ex
  cases r1 with | cons ra r1 => cases r1 with | cons rb r1 =>
    cases r1; cases ra; cases rb
    obtain ⟨its, _, p1, _⟩ := I1.tuple hqa; obtain ⟨jts, _, p2, _⟩ := I1.list hqb
    have la : a < s1.heap.objs.size := by obtain ⟨_, y, _⟩ := p1; exact Heap.lt_size y
    have lb : b < s1.heap.objs.size := by obtain ⟨_, y, _⟩ := p2.isList; exact Heap.lt_size y
    refine zip_begins2 (begins_tuple a its.toArray) (begins_list b jts.toArray) p1 p2.isList fun g hz hTI hTO g1 g2 _ k => wpAny_pyIter_zip hz ?_
    have I2 : Inv X pins σ H1 { s1 with heap := g } := I1.kept (t' := s1.toks) k
    have sep : ZipSep2 (s1.heap.objs.size + 4) (s1.heap.objs.size + 2) (s1.heap.objs.size + 3) s1.heap.objs.size (s1.heap.objs.size + 1) [s1.heap.objs.size, a] [s1.heap.objs.size + 1, b] :=
      zip_sep2 (fp1 := [a]) (fp2 := [b]) (by simpa using la) (by simpa using lb)
    refine ⟨s1.heap.objs.size + 4, [s1.heap.objs.size + 4, s1.heap.objs.size + 2, s1.heap.objs.size + 3, s1.heap.objs.size, s1.heap.objs.size + 1], _, _, H1, rfl, I2, turn_zipTL sep (Nat.ne_of_lt la) (Nat.ne_of_lt (Nat.lt_succ_of_lt lb)), ⟨hz, hTI, ⟨_, _, hTO⟩, ⟨_, g1, rfl, rfl⟩, ⟨_, g2, rfl, rfl⟩⟩, fun m hm => ?_, q⟩
    have lm : s1.heap.objs.size ≤ m := by
      rcases (by simpa using hm : m = s1.heap.objs.size + 4 ∨ m = s1.heap.objs.size + 2 ∨ m = s1.heap.objs.size + 3 ∨ m = s1.heap.objs.size ∨ m = s1.heap.objs.size + 1) with z | z | z | z | z
      all_goals (rw [z]; first | exact Nat.le_add_right _ _ | exact Nat.le_refl _)
    exact I1.fpOk lm (I1.hok.fresh lm)
end Enz
namespace Dat
open PySem PySem.Spec PyProof.Rows L2
theorem zipTLQ {X : Cx} {K : PySem.W.Frag} {e e2 : Expr} {ta : TA} {p pos tpos : Pos} {elts : List Expr} {kk : Nat} (hK : X.K = K) (hg : Gl X "zip") (hm : X.mg "zip" = none) (ha : PA X [e, e2] ta)
    (hs : starEach [e, e2] X.env = (false, eval e X.env) :: starEach [e2] X.env := by rfl) (hpl : (backTo pos (starEach [e2] X.env)).any (·.1) = false := by rfl) :
    PI X (.Tuple elts kk tpos) (.Call (.Name "zip" p) [e, e2] [] pos) (Enz.iZipTL K ta) := by
  subst hK
  exact Enz.pi_zipTL hg hm ha hs hpl
section
variable {K : PySem.W.Frag} [Tb K] {Γ : List (Option Av)} {Ω : AH} {tl : TA} {ds es : List PyData}
theorem walk_zipTL {F : Hp} {a b : Addr} {xs ys : List V} (h : SqT K F a xs) (g : DqAll K F xs ds) (h2 : F b = some (.lst ys)) (g2 : DqAll K F ys es) (hl : ds.length = es.length) : WalkA K F (Enz.ItzTL K a b) (zipA ds es) := by
  constructor
  · intro Ω H k i c e
    obtain ⟨hi, rfl⟩ := rng_at e
    obtain ⟨v, ev, hv⟩ := getD_dq g hi
    obtain ⟨u, eu, hu⟩ := getD_dq g2 (i := i) (by omega)
    refine ⟨⟨xs, ys, v, u, sqT_same (k.fr.trans Fz_le) h, SqL.of (k.fr.trans Fz_le _ _ h2), ev, eu⟩, fun x H' hy => ?_⟩
    obtain ⟨T, x2, y2, rfl, nT, rfl, f, f2⟩ := hy
    have t1 := f xs (sqT_same (k.fr.trans Fz_le) h)
    have t2 := f2 ys (SqL.of (k.fr.trans Fz_le _ _ h2))
    rw [ev] at t1
    rw [eu] at t2
    cases t1
    cases t2
    exact ⟨same_new nT, .dat (tup_new k nT (.cons (hv.same k.fr) (.cons (hu.same k.fr) .nil)))⟩
  · intro Ω H k
    have := g.length
    have := g2.length
    refine ⟨xs, ys, sqT_same (k.fr.trans Fz_le) h, SqL.of (k.fr.trans Fz_le _ _ h2), ?_, ?_⟩ <;> (simp [zipA]; omega)
theorem i_zipTL {P : List Av → AH → Prop} (h : AW K tl Γ Ω fun as Ω1 => ∃ ds es, as = [.dat (.tuple ds), .dat (.list es)] ∧ ds.length = es.length ∧ P (zipA ds es) Ω1) : IW K (Enz.iZipTL K tl) Γ Ω P := fun F σ H R k q =>
  h F σ H _ k fun as vs Ω1 H1 ⟨ds, es, e, hl, hp⟩ k1 v1 => by
    subst e
    cases v1 with | cons va v1 => cases v1 with | cons vb v1 => cases v1; cases va with | dat va => cases vb with | dat vb => cases va with | tup hs g => cases vb with | lst hs2 g2 =>
      exact ⟨_, _, _, _, rfl, sqT_same Fz_le hs, SqL.of (Fz_le _ _ hs2), q _ _ _ _ hp k1 (walk_zipTL hs g hs2 g2 hl)⟩
end
end Dat

set_option Elab.async false
set_option linter.all false
set_option maxRecDepth 100000
set_option maxHeartbeats 2000000
/-! a list that may change, shown; a chain of three comparisons -/
namespace Dat
open PySem PySem.Spec PyProof.Rows L2
theorem c_reprP {K : PySem.W.Frag} [Tb K] {Ω : AH} {P : Av → AH → Prop} {p : Addr} {ds : List PyData} (o : Ω p = some (ds.map .dat)) (s : Shown (.list ds)) (h : P (.dat (.str (PyData.list ds).shown)) Ω) : RCW K (rReprQ K) [.ptr p] Ω P := fun F H xs Q k hx q => by
  cases hx with | cons hx g =>
    cases g
    cases hx
    exact ⟨_, .list ds, rfl, k.listAt o, s, q _ _ _ _ h k (.dat (.str _))⟩
def tChain3 (r r' r2 : R2) (ta tb tc td : TE) : TE := fun σ H Q => ta σ H fun x H1 => tb σ H1 fun y H2 => r x y H2 fun z H3 => ∃ k, z = .bl k ∧
  (if k = true then tc σ H3 fun w' H4 => r' y w' H4 fun z' H5 => ∃ k', z' = .bl k' ∧ (if k' = true then td σ H5 fun u H6 => r2 w' u H6 Q else Q (.bl false) H5) else Q (.bl false) H3)
section
variable {X : Cx} {a b c d : Expr} {ta tb tc td : TE} {pos : Pos}
theorem pe_chain3 {op op' op2 : CmpOp} {r r' r2 : R2} (ho : OpR X (compareOp op) r) (ho' : OpR X (compareOp op') r') (ho2 : OpR X (compareOp op2) r2) (ha : PE X a ta) (hb : PE X b tb) (hc : PE X c tc) (hd : PE X d td)
    (hm : lastMarks [op, op', op2] [b, c, d] = false := by with_unfolding_all rfl) : PE X (.Compare a [op, op', op2] [b, c, d] pos) (tChain3 r r' r2 ta tb tc td) := by
  refine ⟨fun pins s σ H Q I h => ?_⟩
  refine Compare_chain (thn (ha.run pins s σ H _ I h) fun v s1 ⟨x, H1, I1, r1, q1⟩ => chain_link (thn (hb.run pins s1 σ H1 _ I1 q1) fun u s2 ⟨y, H2, I2, r2, q2⟩ =>
    thn (ho pins s2 σ H2 x y v u _ I2 r1 r2 q2) fun d s3 ⟨z, H3, I3, r3, k, e, q3⟩ => ?_)) hm
  subst e
  cases r3
  refine wpAny_truthy_bool ?_
  cases k with
  | false => exact ite_ff ⟨.bl false, H3, I3, rfl, q3⟩
  | true =>
    refine ite_tt (chain_link (thn (hc.run pins s3 σ H3 _ I3 q3) fun w' s4 ⟨z', H4, I4, r4, q4⟩ => thn (ho' pins s4 σ H4 y z' u w' _ I4 r2 r4 q4) fun d' s5 ⟨z5, H5, I5, r5, k', e', q5⟩ => ?_))
    subst e'
    cases r5
    refine wpAny_truthy_bool ?_
    cases k' with
    | false => exact ite_ff ⟨.bl false, H5, I5, rfl, q5⟩
    | true => exact ite_tt (chain_last (thn (hd.run pins s5 σ H5 _ I5 q5) fun w6 s6 ⟨z6, H6, I6, r6, q6⟩ => ho2 pins s6 σ H6 z' z6 w' w6 Q I6 r4 r6 q6))
end
section
variable {K : PySem.W.Frag} [Tb K] {Γ : List (Option Av)} {Ω : AH} {P : Av → AH → Prop} {ta tb tc td : TE} {r r' r2 : R2}
theorem e_chain3 (h : EW K ta Γ Ω fun a Ω1 => EW K tb Γ Ω1 fun b Ω2 => R2W K r a b Ω2 fun c Ω3 => ∃ z, c = .dat (.bool z) ∧ (z = true → EW K tc Γ Ω3 fun d Ω4 => R2W K r' b d Ω4 fun c5 Ω5 => ∃ z', c5 = .dat (.bool z') ∧
    (z' = true → EW K td Γ Ω5 fun e Ω6 => R2W K r2 d e Ω6 P) ∧ (z' = false → P (.dat (.bool false)) Ω5)) ∧ (z = false → P (.dat (.bool false)) Ω3)) : EW K (tChain3 r r' r2 ta tb tc td) Γ Ω P := fun F σ H Q k q =>
  h F σ H _ k fun a v Ω1 H1 h1 k1 v1 => h1 (Fz Ω1 H1) σ H1 _ k1.re fun b w Ω2 H2 h2 k2 v2 =>
    h2 (Fz Ω2 H2) H2 v w _ k2.bare.re (v1.same k2.fr) v2 fun c u Ω3 H3 ⟨z, ec, g1, g2⟩ k3 v3 => by
      subst ec
      have k3' := (k2.anchor k1.fr).back k3
      cases v3 with
      | dat v3 =>
        cases v3
        refine ⟨z, rfl, ?_⟩
        cases z with
        | true =>
          refine g1 rfl (Fz Ω3 H3) σ H3 _ k3'.re fun d x Ω4 H4 h4 k4 v4 =>
            h4 (Fz Ω4 H4) H4 w x _ k4.bare.re ((v2.same k3.fr).same k4.fr) v4 fun c5 u5 Ω5 H5 ⟨z', e5, g3, g4⟩ k5 v5 => ?_
          subst e5
          have k5' := (k4.anchor k3'.fr).back k5
          cases v5 with
          | dat v5 =>
            cases v5
            refine ⟨z', rfl, ?_⟩
            cases z' with
            | true =>
              exact g3 rfl (Fz Ω5 H5) σ H5 _ k5'.re fun e y Ω6 H6 h6 k6 v6 =>
                h6 (Fz Ω6 H6) H6 x y Q k6.bare.re ((v4.same k5.fr).same k6.fr) v6 fun f y' Ω7 H7 hp k7 v7 => q f y' Ω7 H7 hp ((k6.anchor k5'.fr).back k7) v7
            | false => exact q _ _ _ _ (g4 rfl) k5' (.dat (.bl false))
        | false => exact q _ _ _ _ (g2 rfl) k3' (.dat (.bl false))
end
end Dat

set_option Elab.async false
set_option linter.all false
set_option maxRecDepth 100000
set_option maxHeartbeats 2000000
/-! zip of a list and a tuple; of a list, a tuple and a list -/
namespace Enz
open PySem PySem.Spec PyProof.Rows L2
def Itz3L (K : PySem.W.Frag) (a b c : Addr) : It :=
  ⟨fun i H => ∃ (xs ys zs : List V) (x y z : V), SqL K H a xs ∧ SqT K H b ys ∧ SqL K H c zs ∧ xs[i]? = some x ∧ ys[i]? = some y ∧ zs[i]? = some z,
    fun i H v H' => ∃ T x y z, v = .ref T ∧ H T = none ∧ H' = upd H T (.tup [x, y, z]) ∧ (∀ xs, SqL K H a xs → xs[i]? = some x) ∧ (∀ ys, SqT K H b ys → ys[i]? = some y) ∧ ∀ zs, SqL K H c zs → zs[i]? = some z,
    fun i H => ∃ xs ys zs : List V, SqL K H a xs ∧ SqT K H b ys ∧ SqL K H c zs ∧ xs.length = i ∧ ys.length = i ∧ zs.length = i⟩
theorem turn_z3L {P : Program} {w : World} {K : PySem.W.Frag} {elts : List Expr} {kk : Nat} {tpos : Pos} {a b c z TI TO i1 i2 i3 : Addr} (D : ZipSep3 z TI TO i1 i2 i3 [i1, a] [i2, b] [i3, c]) (na : a ≠ i1) (nb : b ≠ i2) (nc : c ≠ i3) :
    Turn P w K (.Tuple elts kk tpos) (Itz3L K a b c) [z, TI, TO, i1, i2, i3] z (fun i h => IsZip h z TI TO .none ∧ IsTupOf3 h TI (.ref i1) (.ref i2) (.ref i3) ∧ (∃ x y u, IsTupOf3 h TO x y u) ∧ h.IsListIter i1 a i ∧ h.IsTupleIter i2 b i ∧ h.IsListIter i3 c i) where
  mem := by simp
  obj := fun i h st m hm => by
    obtain ⟨hz, hTI, ⟨x, y, u, hTO⟩, ⟨o1, e1, _, d1⟩, ⟨o2, e2, _, d2⟩, ⟨o3, e3, _, d3⟩⟩ := st
    rcases (by simpa using hm : m = z ∨ m = TI ∨ m = TO ∨ m = i1 ∨ m = i2 ∨ m = i3) with q | q | q | q | q | q
    · rw [q]; exact ⟨_, hz, fun v q => nomatch q⟩
    · rw [q]; exact ⟨_, hTI, fun v q => nomatch q⟩
    · rw [q]; exact ⟨_, hTO, fun v q => nomatch q⟩
    · rw [q]; exact ⟨o1, e1, fun v q => by rw [d1] at q; cases q⟩
    · rw [q]; exact ⟨o2, e2, fun v q => by rw [d2] at q; cases q⟩
    · rw [q]; exact ⟨o3, e3, fun v q => by rw [d3] at q; cases q⟩
  keep := fun i h h' st k => by
    obtain ⟨hz, hTI, ⟨x, y, u, hTO⟩, h1, h2, h3⟩ := st
    exact ⟨k z (by simp) _ hz, k TI (by simp) _ hTI, ⟨x, y, u, k TO (by simp) _ hTO⟩, h1.at fun o q => k i1 (by simp) o q, h2.at fun o q => k i2 (by simp) o q, h3.at fun o q => k i3 (by simp) o q⟩
  item := by
    intro X hP hw hK hc i pins s σ H E I hf st hg
    subst hP hw hK
    obtain ⟨hz, hTI, ⟨x0, y0, u0, hTO⟩, h1, h2, h3⟩ := st
    obtain ⟨xs, ys, zs, x, y, t, hqx, hqy, hqz, hx, hy, ht⟩ := hg
    obtain ⟨its, rv, p1, _⟩ := I.list hqx; obtain ⟨jts, rw2, p2, _⟩ := I.tuple hqy; obtain ⟨kts, rw3, p3, _⟩ := I.list hqz
    obtain ⟨u1, hu1, ru1⟩ := rv.get hx; obtain ⟨u2, hu2, ru2⟩ := rw2.get hy; obtain ⟨u3, hu3, ru3⟩ := rw3.get ht
    have l1 : i < its.length := (List.getElem?_eq_some_iff.mp hu1).1; have l2 : i < jts.length := (List.getElem?_eq_some_iff.mp hu2).1; have l3 : i < kts.length := (List.getElem?_eq_some_iff.mp hu3).1
    have nh : X.A.in1.handled = none := by simp [I.ok.hd hc]
    have dw1 := Draws.list (prog := X.prog) (w := X.w) (A := X.A.in1) nh i1 a na its.toArray
    have dw2 := Draws.tuple (prog := X.prog) (w := X.w) (A := X.A.in1) nh i2 b nb jts.toArray
    have dw3 := Draws.list (prog := X.prog) (w := X.w) (A := X.A.in1) nh i3 c nc kts.toArray
    have zl : z < s.heap.objs.size := Heap.lt_size hz
    refine wpAny_pyNext_zipD3_item D dw1 dw2 dw3 hz hTI hTO ⟨h1, p1.isList⟩ ⟨h2, p2⟩ ⟨h3, p3.isList⟩ (by simpa using l1) (by simpa using l2) (by simpa using l3) fun v1 v2 v3 g tk q1 q2 q3 z' TO' s1 s2 s3 hT sz k => ?_
    have e1 := pick hu1 q1; have e2 := pick hu2 q2; have e3 := pick hu3 q3
    subst e1; subst e2; subst e3
    refine ⟨_, rfl, wpAny_letOwnedTupleGo_zip (s := { s with heap := g, toks := tk }) z' fun g2 z'' sb => ?_⟩
    have hT2 : g2.get? s.heap.objs.size = some { cls := .type "tuple", data := .seq #[v1, v2, v3] } := (sb.2 _ (Nat.ne_of_gt zl)).trans hT
    have new : ObjOk X.prog X.w (upd H s.heap.objs.size (.tup [x, y, t])) g2 s.heap.objs.size (.tup [x, y, t]) :=
      ⟨by show 3 ≤ sizeLine; decide, [v1, v2, v3], .cons ru1 (.cons ru2 (.cons ru3 .nil)), ⟨_, hT2, rfl, _, rfl⟩⟩
    have I2 : Inv X pins σ (upd H s.heap.objs.size (.tup [x, y, t])) { s with heap := g2, toks := tk } :=
      I.turnedNew (t' := tk) (ch := [z, TI, TO, i1, i2, i3]) (fun m o hb q => (sb.2 m (fun q' => hb (by simp [q']))).trans (k m o (fun q' => hb (by simp [q'])) (fun q' => hb (by simp [q'])) (fun q' => hb (by simp [q'])) (fun q' => hb (by simp [q'])) (fun q' => hb (by simp [q'])) q)) hf (Nat.le_refl _) new
    refine ⟨.ref s.heap.objs.size, _, I2, rfl, ⟨_, x, y, t, rfl, I.hok.fresh (Nat.le_refl _), rfl, fun l hl => by rw [I.list_inj hl hqx]; exact hx, fun l hl => by rw [I.tuple_inj hl hqy]; exact hy, fun l hl => by rw [I.list_inj hl hqz]; exact ht⟩, ⟨z'', ?_, ⟨v1, v2, v3, ?_⟩, ?_, ?_, ?_⟩, fun m hm => ?_⟩
    · exact (sb.2 _ D.TIz).trans (k _ _ D.TIz D.TITO D.TIi1 D.TIi2 D.TIi3 hTI)
    · exact (sb.2 _ D.TOz).trans TO'
    · exact s1.1.at fun o q => (sb.2 _ D.zi1.symm).trans q
    · exact s2.1.at fun o q => (sb.2 _ D.zi2.symm).trans q
    · exact s3.1.at fun o q => (sb.2 _ D.zi3.symm).trans q
    · have lm : m < s.heap.objs.size := by
        rcases (by simpa using hm : m = z ∨ m = TI ∨ m = TO ∨ m = i1 ∨ m = i2 ∨ m = i3) with q | q | q | q | q | q
        · rw [q]; exact zl
        · rw [q]; exact Heap.lt_size hTI
        · rw [q]; exact Heap.lt_size hTO
        · rw [q]; obtain ⟨_, w1, _⟩ := h1; exact Heap.lt_size w1
        · rw [q]; obtain ⟨_, w1, _⟩ := h2; exact Heap.lt_size w1
        · rw [q]; obtain ⟨_, w1, _⟩ := h3; exact Heap.lt_size w1
      rw [upd_ne (Nat.ne_of_lt lm)]; exact (hf m hm).1
  done := by
    intro X hP hw hK hc i pins s σ H E I hf st hg
    subst hP hw hK
    obtain ⟨hz, hTI, ⟨x0, y0, u0, hTO⟩, h1, h2, h3⟩ := st
    obtain ⟨xs, ys, zs, hqx, hqy, hqz, ln1, ln2, ln3⟩ := hg
    obtain ⟨its, rv, p1, _⟩ := I.list hqx; obtain ⟨jts, rw2, p2, _⟩ := I.tuple hqy; obtain ⟨kts, rw3, p3, _⟩ := I.list hqz
    have m1 := rv.length; have m2 := rw2.length; have m3 := rw3.length
    have nh : X.A.in1.handled = none := by simp [I.ok.hd hc]
    have dw1 := Draws.list (prog := X.prog) (w := X.w) (A := X.A.in1) nh i1 a na its.toArray
    have dw2 := Draws.tuple (prog := X.prog) (w := X.w) (A := X.A.in1) nh i2 b nb jts.toArray
    have dw3 := Draws.list (prog := X.prog) (w := X.w) (A := X.A.in1) nh i3 c nc kts.toArray
    exact wpAny_pyNext_zipD3_end D dw1 dw2 dw3 hz hTI hTO ⟨h1, p1.isList⟩ ⟨h2, p2⟩ ⟨h3, p3.isList⟩ (by simp; omega) (by simp; omega) (by simp; omega) (.inl (by simp; omega)) fun g tk k => ⟨rfl, I.turnedL (t' := tk) (ch := [z, TI, TO, i1, i2, i3]) (fun m o hb q =>
      k m o (fun q' => hb (by simp [q'])) (fun q' => hb (by simp [q'])) (fun q' => hb (by simp [q'])) (fun q' => hb (by simp [q'])) (fun q' => hb (by simp [q'])) q) hf⟩
  self := fun A i s Q E st h => wpAny_pyIter_zip st.1 h
def iZ3L (K : PySem.W.Frag) (ta : TA) : TI := fun σ H R => ta σ H fun vs H1 => ∃ a b c xs ys zs, vs = [.ref a, .ref b, .ref c] ∧ SqL K H1 a xs ∧ SqT K H1 b ys ∧ SqL K H1 c zs ∧ R (Itz3L K a b c) H1
theorem pi_z3L {X : Cx} {e e2 e3 : Expr} {ta : TA} {p pos tpos : Pos} {elts : List Expr} {kk : Nat} (hg : Gl X "zip") (hm : X.mg "zip" = none) (ha : PA X [e, e2, e3] ta)
    (hs : starEach [e, e2, e3] X.env = (false, eval e X.env) :: starEach [e2, e3] X.env := by rfl) (hpl : (backTo pos (starEach [e2, e3] X.env)).any (·.1) = false := by rfl) :
    PI X (.Tuple elts kk tpos) (.Call (.Name "zip" p) [e, e2, e3] [] pos) (iZ3L X.K ta) := by
  refine ⟨fun pins s σ H R I h => Call_ (ld_blt I hg hm PyProof.Rows.boot_zip (PyProof.Rows.callWith_type1 (thn (ha.run pos pins s σ H _ I h) fun us s1 ⟨vs, H1, I1, r1, q1⟩ => ?_) hs hpl))⟩
  obtain ⟨a, b, c, xs, ys, zs, ex, hqa, hqb, hqc, q⟩ := q1
  subst ex
  cases r1 with | cons ra r1 => cases r1 with | cons rb r1 => cases r1 with | cons rc r1 =>
    cases r1; cases ra; cases rb; cases rc
    obtain ⟨its, _, p1, _⟩ := I1.list hqa; obtain ⟨jts, _, p2, _⟩ := I1.tuple hqb; obtain ⟨kts, _, p3, _⟩ := I1.list hqc
    have la : a < s1.heap.objs.size := by obtain ⟨_, y, _⟩ := p1.isList; exact Heap.lt_size y
    have lb : b < s1.heap.objs.size := by obtain ⟨_, y, _⟩ := p2; exact Heap.lt_size y
    have lc : c < s1.heap.objs.size := by obtain ⟨_, y, _⟩ := p3.isList; exact Heap.lt_size y
    refine zip_begins3 (begins_list a its.toArray) (begins_tuple b jts.toArray) (begins_list c kts.toArray) p1.isList p2 p3.isList fun g hz hTI hTO g1 g2 g3 _ k => wpAny_pyIter_zip hz ?_
    have I2 : Inv X pins σ H1 { s1 with heap := g } := I1.kept (t' := s1.toks) k
    have sep : ZipSep3 (s1.heap.objs.size + 5) (s1.heap.objs.size + 3) (s1.heap.objs.size + 4) s1.heap.objs.size (s1.heap.objs.size + 1) (s1.heap.objs.size + 2) [s1.heap.objs.size, a] [s1.heap.objs.size + 1, b] [s1.heap.objs.size + 2, c] :=
      zip_sep3 (fp1 := [a]) (fp2 := [b]) (fp3 := [c]) (by simpa using la) (by simpa using lb) (by simpa using lc)
    refine ⟨s1.heap.objs.size + 5, [s1.heap.objs.size + 5, s1.heap.objs.size + 3, s1.heap.objs.size + 4, s1.heap.objs.size, s1.heap.objs.size + 1, s1.heap.objs.size + 2], _, _, H1, rfl, I2, turn_z3L sep (Nat.ne_of_lt la) (Nat.ne_of_lt (Nat.lt_succ_of_lt lb)) (Nat.ne_of_lt (Nat.lt_succ_of_lt (Nat.lt_succ_of_lt lc))), ⟨hz, hTI, ⟨_, _, _, hTO⟩, ⟨_, g1, rfl, rfl⟩, ⟨_, g2, rfl, rfl⟩, ⟨_, g3, rfl, rfl⟩⟩, fun m hm => ?_, q⟩
    have lm : s1.heap.objs.size ≤ m := by
      rcases (by simpa using hm : m = s1.heap.objs.size + 5 ∨ m = s1.heap.objs.size + 3 ∨ m = s1.heap.objs.size + 4 ∨ m = s1.heap.objs.size ∨ m = s1.heap.objs.size + 1 ∨ m = s1.heap.objs.size + 2) with z | z | z | z | z | z
      all_goals (rw [z]; first | exact Nat.le_add_right _ _ | exact Nat.le_refl _)
    exact I1.fpOk lm (I1.hok.fresh lm)
def ItzLT (K : PySem.W.Frag) (a b : Addr) : It :=
  ⟨fun i H => ∃ (xs ys : List V) (x y : V), SqL K H a xs ∧ SqT K H b ys ∧ xs[i]? = some x ∧ ys[i]? = some y,
    fun i H v H' => ∃ T x y, v = .ref T ∧ H T = none ∧ H' = upd H T (.tup [x, y]) ∧ (∀ xs, SqL K H a xs → xs[i]? = some x) ∧ ∀ ys, SqT K H b ys → ys[i]? = some y,
    fun i H => ∃ xs ys : List V, SqL K H a xs ∧ SqT K H b ys ∧ xs.length = i ∧ ys.length = i⟩
theorem turn_zipLT {P : Program} {w : World} {K : PySem.W.Frag} {elts : List Expr} {kk : Nat} {tpos : Pos} {a b z TI TO i1 i2 : Addr} (D : ZipSep2 z TI TO i1 i2 [i1, a] [i2, b]) (na : a ≠ i1) (nb : b ≠ i2) :
    Turn P w K (.Tuple elts kk tpos) (ItzLT K a b) [z, TI, TO, i1, i2] z (fun i h => IsZip h z TI TO .none ∧ IsTupOf2 h TI (.ref i1) (.ref i2) ∧ (∃ x y, IsTupOf2 h TO x y) ∧ h.IsListIter i1 a i ∧ h.IsTupleIter i2 b i) where
  mem := by simp
  obj := fun i h st m hm => by
    obtain ⟨hz, hTI, ⟨x, y, hTO⟩, ⟨o1, e1, _, d1⟩, ⟨o2, e2, _, d2⟩⟩ := st
    rcases (by simpa using hm : m = z ∨ m = TI ∨ m = TO ∨ m = i1 ∨ m = i2) with q | q | q | q | q
    · rw [q]; exact ⟨_, hz, fun v q => nomatch q⟩
    · rw [q]; exact ⟨_, hTI, fun v q => nomatch q⟩
    · rw [q]; exact ⟨_, hTO, fun v q => nomatch q⟩
    · rw [q]; exact ⟨o1, e1, fun v q => by rw [d1] at q; cases q⟩
    · rw [q]; exact ⟨o2, e2, fun v q => by rw [d2] at q; cases q⟩
  keep := fun i h h' st k => by
    obtain ⟨hz, hTI, ⟨x, y, hTO⟩, h1, h2⟩ := st
    exact ⟨k z (by simp) _ hz, k TI (by simp) _ hTI, ⟨x, y, k TO (by simp) _ hTO⟩, h1.at fun o q => k i1 (by simp) o q, h2.at fun o q => k i2 (by simp) o q⟩
  item := by
    intro X hP hw hK hc i pins s σ H E I hf st hg
    subst hP hw hK
    obtain ⟨hz, hTI, ⟨x0, y0, hTO⟩, h1, h2⟩ := st
    obtain ⟨xs, ys, x, y, hqx, hqy, hx, hy⟩ := hg
    obtain ⟨its, rv, p1, _⟩ := I.list hqx; obtain ⟨jts, rw2, p2, _⟩ := I.tuple hqy
    obtain ⟨u1, hu1, ru1⟩ := rv.get hx; obtain ⟨u2, hu2, ru2⟩ := rw2.get hy
    have l1 : i < its.length := (List.getElem?_eq_some_iff.mp hu1).1; have l2 : i < jts.length := (List.getElem?_eq_some_iff.mp hu2).1
    have nh : X.A.in1.handled = none := by simp [I.ok.hd hc]
    have dw1 := Draws.list (prog := X.prog) (w := X.w) (A := X.A.in1) nh i1 a na its.toArray
    have dw2 := Draws.tuple (prog := X.prog) (w := X.w) (A := X.A.in1) nh i2 b nb jts.toArray
    have zl : z < s.heap.objs.size := Heap.lt_size hz
    refine wpAny_pyNext_zipD2_item D dw1 dw2 hz hTI hTO ⟨h1, p1.isList⟩ ⟨h2, p2⟩ (by simpa using l1) (by simpa using l2) fun v1 v2 g tk q1 q2 z' TO' s1 s2 hT sz k => ?_
    have e1 := pick hu1 q1; have e2 := pick hu2 q2
    subst e1; subst e2
    refine ⟨_, rfl, wpAny_letOwnedTupleGo_zip (s := { s with heap := g, toks := tk }) z' fun g2 z'' sb => ?_⟩
    have hT2 : g2.get? s.heap.objs.size = some { cls := .type "tuple", data := .seq #[v1, v2] } := (sb.2 _ (Nat.ne_of_gt zl)).trans hT
    have new : ObjOk X.prog X.w (upd H s.heap.objs.size (.tup [x, y])) g2 s.heap.objs.size (.tup [x, y]) :=
      ⟨by show 2 ≤ sizeLine; decide, [v1, v2], .cons ru1 (.cons ru2 .nil), ⟨_, hT2, rfl, _, rfl⟩⟩
    have I2 : Inv X pins σ (upd H s.heap.objs.size (.tup [x, y])) { s with heap := g2, toks := tk } :=
      I.turnedNew (t' := tk) (ch := [z, TI, TO, i1, i2]) (fun m o hb q => (sb.2 m (fun q' => hb (by simp [q']))).trans (k m o (fun q' => hb (by simp [q'])) (fun q' => hb (by simp [q'])) (fun q' => hb (by simp [q'])) (fun q' => hb (by simp [q'])) q)) hf (Nat.le_refl _) new
    refine ⟨.ref s.heap.objs.size, _, I2, rfl, ⟨_, x, y, rfl, I.hok.fresh (Nat.le_refl _), rfl, fun l hl => by rw [I.list_inj hl hqx]; exact hx, fun l hl => by rw [I.tuple_inj hl hqy]; exact hy⟩, ⟨z'', ?_, ⟨v1, v2, ?_⟩, ?_, ?_⟩, fun m hm => ?_⟩
    · exact (sb.2 _ D.TIz).trans (k _ _ D.TIz D.TITO D.TIi1 D.TIi2 hTI)
    · exact (sb.2 _ D.TOz).trans TO'
    · exact s1.1.at fun o q => (sb.2 _ D.zi1.symm).trans q
    · exact s2.1.at fun o q => (sb.2 _ D.zi2.symm).trans q
    · have lm : m < s.heap.objs.size := by
        rcases (by simpa using hm : m = z ∨ m = TI ∨ m = TO ∨ m = i1 ∨ m = i2) with q | q | q | q | q
        · rw [q]; exact zl
        · rw [q]; exact Heap.lt_size hTI
        · rw [q]; exact Heap.lt_size hTO
        · rw [q]; obtain ⟨_, w1, _⟩ := h1; exact Heap.lt_size w1
        · rw [q]; obtain ⟨_, w1, _⟩ := h2; exact Heap.lt_size w1
      rw [upd_ne (Nat.ne_of_lt lm)]; exact (hf m hm).1
  done := by
    intro X hP hw hK hc i pins s σ H E I hf st hg
    subst hP hw hK
    obtain ⟨hz, hTI, ⟨x0, y0, hTO⟩, h1, h2⟩ := st
    obtain ⟨xs, ys, hqx, hqy, ln1, ln2⟩ := hg
    obtain ⟨its, rv, p1, _⟩ := I.list hqx; obtain ⟨jts, rw2, p2, _⟩ := I.tuple hqy
    have m1 := rv.length; have m2 := rw2.length
    have nh : X.A.in1.handled = none := by simp [I.ok.hd hc]
    have dw1 := Draws.list (prog := X.prog) (w := X.w) (A := X.A.in1) nh i1 a na its.toArray
    have dw2 := Draws.tuple (prog := X.prog) (w := X.w) (A := X.A.in1) nh i2 b nb jts.toArray
    exact wpAny_pyNext_zipD2_end D dw1 dw2 hz hTI hTO ⟨h1, p1.isList⟩ ⟨h2, p2⟩ (by simp; omega) (by simp; omega) (.inl (by simp; omega)) fun g tk k => ⟨rfl, I.turnedL (t' := tk) (ch := [z, TI, TO, i1, i2]) (fun m o hb q =>
      k m o (fun q' => hb (by simp [q'])) (fun q' => hb (by simp [q'])) (fun q' => hb (by simp [q'])) (fun q' => hb (by simp [q'])) q) hf⟩
  self := fun A i s Q E st h => wpAny_pyIter_zip st.1 h
def iZipLT (K : PySem.W.Frag) (ta : TA) : TI := fun σ H R => ta σ H fun vs H1 => ∃ a b xs ys, vs = [.ref a, .ref b] ∧ SqL K H1 a xs ∧ SqT K H1 b ys ∧ R (ItzLT K a b) H1
theorem pi_zipLT {X : Cx} {e e2 : Expr} {ta : TA} {p pos tpos : Pos} {elts : List Expr} {kk : Nat} (hg : Gl X "zip") (hm : X.mg "zip" = none) (ha : PA X [e, e2] ta)
    (hs : starEach [e, e2] X.env = (false, eval e X.env) :: starEach [e2] X.env := by rfl) (hpl : (backTo pos (starEach [e2] X.env)).any (·.1) = false := by rfl) :
    PI X (.Tuple elts kk tpos) (.Call (.Name "zip" p) [e, e2] [] pos) (iZipLT X.K ta) := by
  refine ⟨fun pins s σ H R I h => Call_ (ld_blt I hg hm PyProof.Rows.boot_zip (PyProof.Rows.callWith_type1 (thn (ha.run pos pins s σ H _ I h) fun us s1 ⟨vs, H1, I1, r1, q1⟩ => ?_) hs hpl))⟩
  obtain ⟨a, b, xs, ys, ex, hqa, hqb, q⟩ := q1
  subst ex
  cases r1 with | cons ra r1 => cases r1 with | cons rb r1 =>
    cases r1; cases ra; cases rb
    obtain ⟨its, _, p1, _⟩ := I1.list hqa; obtain ⟨jts, _, p2, _⟩ := I1.tuple hqb
    have la : a < s1.heap.objs.size := by obtain ⟨_, y, _⟩ := p1.isList; exact Heap.lt_size y
    have lb : b < s1.heap.objs.size := by obtain ⟨_, y, _⟩ := p2; exact Heap.lt_size y
    refine zip_begins2 (begins_list a its.toArray) (begins_tuple b jts.toArray) p1.isList p2 fun g hz hTI hTO g1 g2 _ k => wpAny_pyIter_zip hz ?_
    have I2 : Inv X pins σ H1 { s1 with heap := g } := I1.kept (t' := s1.toks) k
    have sep : ZipSep2 (s1.heap.objs.size + 4) (s1.heap.objs.size + 2) (s1.heap.objs.size + 3) s1.heap.objs.size (s1.heap.objs.size + 1) [s1.heap.objs.size, a] [s1.heap.objs.size + 1, b] :=
      zip_sep2 (fp1 := [a]) (fp2 := [b]) (by simpa using la) (by simpa using lb)
    refine ⟨s1.heap.objs.size + 4, [s1.heap.objs.size + 4, s1.heap.objs.size + 2, s1.heap.objs.size + 3, s1.heap.objs.size, s1.heap.objs.size + 1], _, _, H1, rfl, I2, turn_zipLT sep (Nat.ne_of_lt la) (Nat.ne_of_lt (Nat.lt_succ_of_lt lb)), ⟨hz, hTI, ⟨_, _, hTO⟩, ⟨_, g1, rfl, rfl⟩, ⟨_, g2, rfl, rfl⟩⟩, fun m hm => ?_, q⟩
    have lm : s1.heap.objs.size ≤ m := by
      rcases (by simpa using hm : m = s1.heap.objs.size + 4 ∨ m = s1.heap.objs.size + 2 ∨ m = s1.heap.objs.size + 3 ∨ m = s1.heap.objs.size ∨ m = s1.heap.objs.size + 1) with z | z | z | z | z
      all_goals (rw [z]; first | exact Nat.le_add_right _ _ | exact Nat.le_refl _)
    exact I1.fpOk lm (I1.hok.fresh lm)
end Enz
namespace Dat
open PySem PySem.Spec PyProof.Rows L2
theorem zip3LQ {X : Cx} {K : PySem.W.Frag} [Tb K] {e e2 e3 : Expr} {ta : TA} {p pos tpos : Pos} {elts : List Expr} {kk : Nat} (hK : X.K = K) (hg : Gl X "zip") (hm : X.mg "zip" = none) (ha : PA X [e, e2, e3] ta)
    (hs : starEach [e, e2, e3] X.env = (false, eval e X.env) :: starEach [e2, e3] X.env := by rfl) (hpl : (backTo pos (starEach [e2, e3] X.env)).any (·.1) = false := by rfl) :
    PI X (.Tuple elts kk tpos) (.Call (.Name "zip" p) [e, e2, e3] [] pos) (Enz.iZ3L K ta) := by
  subst hK
  exact Enz.pi_z3L hg hm ha hs hpl
theorem zipLTQ {X : Cx} {K : PySem.W.Frag} {e e2 : Expr} {ta : TA} {p pos tpos : Pos} {elts : List Expr} {kk : Nat} (hK : X.K = K) (hg : Gl X "zip") (hm : X.mg "zip" = none) (ha : PA X [e, e2] ta)
    (hs : starEach [e, e2] X.env = (false, eval e X.env) :: starEach [e2] X.env := by rfl) (hpl : (backTo pos (starEach [e2] X.env)).any (·.1) = false := by rfl) :
    PI X (.Tuple elts kk tpos) (.Call (.Name "zip" p) [e, e2] [] pos) (Enz.iZipLT K ta) := by
  subst hK
  exact Enz.pi_zipLT hg hm ha hs hpl
section
variable {K : PySem.W.Frag} [Tb K] {Γ : List (Option Av)} {Ω : AH} {tl : TA} {ds es fs : List PyData}
theorem walk_z3L {F : Hp} {a b c : Addr} {xs ys zs : List V} (h : F a = some (.lst xs)) (g : DqAll K F xs ds) (h2 : SqT K F b ys) (g2 : DqAll K F ys es) (h3 : F c = some (.lst zs)) (g3 : DqAll K F zs fs) (hl : ds.length = es.length) (hl2 : ds.length = fs.length) : WalkA K F (Enz.Itz3L K a b c) (zip3A ds es fs) := by
  constructor
  · intro Ω H k i m e
    obtain ⟨hi, rfl⟩ := rng_at e
    obtain ⟨v, ev, hv⟩ := getD_dq g hi
    obtain ⟨u, eu, hu⟩ := getD_dq g2 (i := i) (by omega)
    obtain ⟨t, et, ht⟩ := getD_dq g3 (i := i) (by omega)
    refine ⟨⟨xs, ys, zs, v, u, t, SqL.of (k.fr.trans Fz_le _ _ h), sqT_same (k.fr.trans Fz_le) h2, SqL.of (k.fr.trans Fz_le _ _ h3), ev, eu, et⟩, fun x H' hy => ?_⟩
    obtain ⟨T, x2, y2, z2, rfl, nT, rfl, f, f2, f3⟩ := hy
    have t1 := f xs (SqL.of (k.fr.trans Fz_le _ _ h))
    have t2 := f2 ys (sqT_same (k.fr.trans Fz_le) h2)
    have t3 := f3 zs (SqL.of (k.fr.trans Fz_le _ _ h3))
    rw [ev] at t1
    rw [eu] at t2
    rw [et] at t3
    cases t1
    cases t2
    cases t3
    exact ⟨same_new nT, .dat (tup_new k nT (.cons (hv.same k.fr) (.cons (hu.same k.fr) (.cons (ht.same k.fr) .nil))))⟩
  · intro Ω H k
    have := g.length
    have := g2.length
    have := g3.length
    refine ⟨xs, ys, zs, SqL.of (k.fr.trans Fz_le _ _ h), sqT_same (k.fr.trans Fz_le) h2, SqL.of (k.fr.trans Fz_le _ _ h3), ?_, ?_, ?_⟩ <;> (simp [zip3A]; omega)
theorem walk_zipLT {F : Hp} {a b : Addr} {xs ys : List V} (h : F a = some (.lst xs)) (g : DqAll K F xs ds) (h2 : SqT K F b ys) (g2 : DqAll K F ys es) (hl : ds.length = es.length) : WalkA K F (Enz.ItzLT K a b) (zipA ds es) := by
  constructor
  · intro Ω H k i c e
    obtain ⟨hi, rfl⟩ := rng_at e
    obtain ⟨v, ev, hv⟩ := getD_dq g hi
    obtain ⟨u, eu, hu⟩ := getD_dq g2 (i := i) (by omega)
    refine ⟨⟨xs, ys, v, u, SqL.of (k.fr.trans Fz_le _ _ h), sqT_same (k.fr.trans Fz_le) h2, ev, eu⟩, fun x H' hy => ?_⟩
    obtain ⟨T, x2, y2, rfl, nT, rfl, f, f2⟩ := hy
    have t1 := f xs (SqL.of (k.fr.trans Fz_le _ _ h))
    have t2 := f2 ys (sqT_same (k.fr.trans Fz_le) h2)
    rw [ev] at t1
    rw [eu] at t2
    cases t1
    cases t2
    exact ⟨same_new nT, .dat (tup_new k nT (.cons (hv.same k.fr) (.cons (hu.same k.fr) .nil)))⟩
  · intro Ω H k
    have := g.length
    have := g2.length
    refine ⟨xs, ys, SqL.of (k.fr.trans Fz_le _ _ h), sqT_same (k.fr.trans Fz_le) h2, ?_, ?_⟩ <;> (simp [zipA]; omega)
theorem i_z3L {P : List Av → AH → Prop} (h : AW K tl Γ Ω fun as Ω1 => ∃ ds es fs, as = [.dat (.list ds), .dat (.tuple es), .dat (.list fs)] ∧ ds.length = es.length ∧ ds.length = fs.length ∧ P (zip3A ds es fs) Ω1) : IW K (Enz.iZ3L K tl) Γ Ω P := fun F σ H R k q =>
  h F σ H _ k fun as vs Ω1 H1 ⟨ds, es, fs, e, hl, hl2, hp⟩ k1 v1 => by
    subst e
    cases v1 with | cons va v1 => cases v1 with | cons vb v1 => cases v1 with | cons vc v1 => cases v1; cases va with | dat va => cases vb with | dat vb => cases vc with | dat vc => cases va with | lst hs g => cases vb with | tup hs2 g2 => cases vc with | lst hs3 g3 =>
      exact ⟨_, _, _, _, _, _, rfl, SqL.of (Fz_le _ _ hs), sqT_same Fz_le hs2, SqL.of (Fz_le _ _ hs3), q _ _ _ _ hp k1 (walk_z3L hs g hs2 g2 hs3 g3 hl hl2)⟩
theorem i_zipLT {P : List Av → AH → Prop} (h : AW K tl Γ Ω fun as Ω1 => ∃ ds es, as = [.dat (.list ds), .dat (.tuple es)] ∧ ds.length = es.length ∧ P (zipA ds es) Ω1) : IW K (Enz.iZipLT K tl) Γ Ω P := fun F σ H R k q =>
  h F σ H _ k fun as vs Ω1 H1 ⟨ds, es, e, hl, hp⟩ k1 v1 => by
    subst e
    cases v1 with | cons va v1 => cases v1 with | cons vb v1 => cases v1; cases va with | dat va => cases vb with | dat vb => cases va with | lst hs g => cases vb with | tup hs2 g2 =>
      exact ⟨_, _, _, _, rfl, SqL.of (Fz_le _ _ hs), sqT_same Fz_le hs2, q _ _ _ _ hp k1 (walk_zipLT hs g hs2 g2 hl)⟩
end
end Dat

set_option Elab.async false
set_option linter.all false
set_option maxRecDepth 100000
set_option maxHeartbeats 2000000
/-! walks over lists that may change; what is told of fewer lists -/
namespace Dat
open PySem PySem.Spec PyProof.Rows L2
section
variable {K : PySem.W.Frag} [Tb K] {Γ : List (Option Av)} {Ω : AH} {E : EndA} {te : TE} {t : TS} {tt : TT} {g : TG} {p : Addr} {ds : List PyData}
theorem Fz_sub {Ω Ω2 : AH} {H : Hp} (s : ∀ q bs, Ω2 q = some bs → Ω q = some bs) (so : Ω2.o = Ω.o) : Same (Fz Ω H) (Fz Ω2 H) := fun a o e => by
  obtain ⟨n, h2, h3⟩ := Fz_of e
  have m : Ω2 a = none := by
    cases e2 : Ω2 a with
    | none => rfl
    | some bs =>
      have n1 : Ω a = none := n.1
      rw [s a bs e2] at n1
      cases n1
  exact Fz_to ⟨m, by rw [so]; exact n.2⟩ h2 h3
theorem Ok.sub {F H : Hp} {σ : L2.St} {Ω2 : AH} (k : Ok K F Ω Γ σ H) (s : ∀ q bs, Ω2 q = some bs → Ω q = some bs) (so : Ω2.o = Ω.o) : Ok K F Ω2 Γ σ H := by
  have z := Fz_sub (H := H) s so
  refine ⟨k.fr.trans z, fun q bs hq => ?_, k.sl.same z, k.tb, fun q u hq => ?_⟩
  · obtain ⟨xs, h1, h2⟩ := k.st q bs (s q bs hq)
    exact ⟨xs, h1, h2.same z⟩
  · rw [so] at hq
    obtain ⟨x, h1, h2⟩ := k.ob q u hq
    exact ⟨x, h1, h2.same z⟩
theorem EW.sub {P : Av → AH → Prop} (h : EW K te Γ Ω fun a Ω' => ∃ Ω2 : AH, (∀ q bs, Ω2 q = some bs → Ω' q = some bs) ∧ Ω2.o = Ω'.o ∧ P a Ω2) : EW K te Γ Ω P := fun F σ H Q k q =>
  h F σ H Q k fun a v Ω' H' ⟨Ω2, s, so, hp⟩ k' hv => q a v Ω2 H' hp (k'.sub s so) (hv.same (Fz_sub s so))
theorem s_sub {Ω2 : AH} (s : ∀ q bs, Ω2 q = some bs → Ω q = some bs) (h : SW K t Γ Ω2 E) (so : Ω2.o = Ω.o := by rfl) : SW K t Γ Ω E := fun F σ H D k e => h F σ H D (k.sub s so) e
theorem put_self {as : List Av} (h : Ω p = some as) : put Ω p as = Ω := put_id h
theorem r_tupPk {P : Av → AH → Prop} (o : Ω p = some (ds.map .dat)) (h : P (.dat (.tuple ds)) Ω) : R1W K (kTup K) (.ptr p) Ω P := fun F H x Q k hx q => by
  cases hx
  obtain ⟨ys, h1, h2⟩ := k.st p _ o
  exact .inl ⟨_, _, rfl, SqL.of h1, fun u nu => q _ _ _ _ h (k.same (same_new nu)) (.dat (tup_new k nu h2.dats))⟩
structure WalkC (K : PySem.W.Frag) [Tb K] (F : Hp) (J : It) (as : List Av) (C : AH → Prop) : Prop where
  go : ∀ (Ω : AH) (H : Hp), Ok K F Ω [] [] H → C Ω → ∀ i a, as[i]? = some a → J.go i H ∧ ∀ x H', J.yld i H x H' → Same H H' ∧ VOk K (Fz Ω H') a x
  stop : ∀ (Ω : AH) (H : Hp), Ok K F Ω [] [] H → C Ω → J.stop as.length H
def IWC (K : PySem.W.Frag) [Tb K] (wi : TI) (Γ : List (Option Av)) (Ω : AH) (P : List Av → (AH → Prop) → AH → Prop) : Prop :=
  ∀ (F : Hp) (σ : L2.St) (H : Hp) (R : It → Hp → Prop), Ok K F Ω Γ σ H → (∀ as C Ω' H' J, P as C Ω' → Ok K F Ω' Γ σ H' → WalkC K (Fz Ω' H') J as C → R J H') → wi σ H R
theorem walk_p {F : Hp} {as : List Av} : WalkC K F (Itl K p) as (fun Ω => Ω p = some as) := by
  constructor
  · intro Ω H k c i b e
    obtain ⟨xs, h1, h2⟩ := k.st p as c
    obtain ⟨v, ev, hv⟩ := h2.get e
    have hs : SqL K H p xs := SqL.of h1
    refine ⟨⟨xs, v, hs, ev⟩, fun x H' hy => ?_⟩
    obtain ⟨rfl, f⟩ := hy
    have := f xs hs
    rw [ev] at this
    cases this
    exact ⟨Same.refl _, hv⟩
  · intro Ω H k c
    obtain ⟨xs, h1, h2⟩ := k.st p as c
    exact ⟨xs, SqL.of h1, by rw [h2.length]; exact Nat.le_refl _⟩
theorem i_ptr {P : List Av → (AH → Prop) → AH → Prop} (h : EW K te Γ Ω fun a Ω1 => ∃ p as, a = .ptr p ∧ Ω1 p = some as ∧ P as (fun Ω' => Ω' p = some as) Ω1) : IWC K (iList K te) Γ Ω P := fun F σ H R k q =>
  h F σ H _ k fun a v Ω1 H1 ⟨p, as, e, ep, hp⟩ k1 v1 => by
    subst e
    cases v1
    obtain ⟨xs, h1, _⟩ := k1.st p as ep
    exact ⟨p, rfl, ⟨xs, SqL.of h1⟩, q _ _ _ _ _ hp k1 walk_p⟩
theorem s_forC {wi : TI} (M : List Av → Nat → List (Option Av) → AH → Prop) (h : IWC K wi Γ Ω fun as C Ω1 => M as 0 Γ Ω1 ∧ (∀ i Γ' Ω', M as i Γ' Ω' → C Ω') ∧
      (∀ i a Γ' Ω', as[i]? = some a → M as i Γ' Ω' → GW K g a Γ' Ω' fun Γ2 Ω2 => SW K t Γ2 Ω2 { E with nx := M as (i + 1), ct := M as (i + 1), bk := E.nx }) ∧ ∀ Γ' Ω', M as as.length Γ' Ω' → E.nx Γ' Ω') : SW K (tFor wi g t) Γ Ω E := fun F σ H D k e =>
  h F σ H _ k fun as C Ω1 H1 J ⟨h0, hC, hs, hd⟩ k1 wk => by
    have e1 := e.anchor k1.fr
    refine ⟨fun i m σ' H' => m = as.length - i ∧ i ≤ as.length ∧ ∃ Γ' Ω', M as i Γ' Ω' ∧ Ok K (Fz Ω1 H1) Ω' Γ' σ' H', ⟨_, rfl, Nat.zero_le _, Γ, Ω1, h0, k1.re⟩, ?_⟩
    rintro i m σ' H' ⟨rfl, hi, Γ', Ω', hm, k'⟩
    by_cases hlt : i < as.length
    · obtain ⟨hg, hy⟩ := wk.go Ω' H' k'.bare (hC i Γ' Ω' hm) i _ (List.getElem?_eq_getElem hlt)
      refine .inr ⟨hg, fun σ2 H2 => ∃ Γ2 Ω2, M as (i + 1) Γ2 Ω2 ∧ Ok K (Fz Ω1 H1) Ω2 Γ2 σ2 H2, fun σ2 H2 ⟨Γ2, Ω2, hm2, k2⟩ => ⟨_, by omega, rfl, by omega, Γ2, Ω2, hm2, k2⟩, fun x H2 hyx => ?_⟩
      obtain ⟨s2, v2⟩ := hy x H2 hyx
      exact hs i _ Γ' Ω' (List.getElem?_eq_getElem hlt) hm (Fz Ω1 H1) σ' H2 x _ (k'.same s2) v2 fun Γ3 σ3 Ω3 H3 h3 k3 =>
        h3 (Fz Ω1 H1) σ3 H3 _ k3 ⟨fun Γ4 σ4 Ω4 H4 h4 k4 => ⟨Γ4, Ω4, h4, k4⟩, e1.rt, e1.nx, fun Γ4 σ4 Ω4 H4 h4 k4 => ⟨Γ4, Ω4, h4, k4⟩⟩
    · have ei : i = as.length := by omega
      subst ei
      exact .inl ⟨wk.stop Ω' H' k'.bare (hC _ Γ' Ω' hm), e1.nx _ _ _ _ (hd Γ' Ω' hm) k'⟩
theorem e_lcC {wi : TI} {vs : List Nat} {P : Av → AH → Prop} (hg : GN g vs) (M : Addr → List Av → (AH → Prop) → Nat → List Av → AH → Prop)
    (h : IWC K wi Γ Ω fun as C Ω1 => as.length ≤ 50000 ∧ ∀ D, Ω1 D = none → M D as C 0 [] (put Ω1 D []) ∧ (∀ i acc Ω', M D as C i acc Ω' → C Ω') ∧
      (∀ i a acc Ω', as[i]? = some a → M D as C i acc Ω' → Ω' D = some acc ∧ acc.length ≤ i ∧ GW K g a (wipeA Γ vs) Ω' fun Γ2 Ω2 => TW K tt Γ2 Ω2 fun b Ω3 =>
        (b = true → EW K te Γ2 Ω3 fun y Ω4 => Ω4 D = some acc ∧ M D as C (i + 1) (acc ++ [y]) (put Ω4 D (acc ++ [y]))) ∧ (b = false → M D as C (i + 1) acc Ω3)) ∧
      ∀ acc Ω', M D as C as.length acc Ω' → P (.ptr D) Ω') : EW K (tLc wi g tt te vs) Γ Ω P := fun F σ H Q k q =>
  h F σ H _ k fun as C Ω1 H1 J ⟨hz, hM⟩ k1 wk D nD => by
    obtain ⟨h0, hC, hs, hd⟩ := hM D (k1.free nD)
    refine ⟨fun i m H' => m = as.length - i ∧ i ≤ as.length ∧ ∃ acc Ω', M D as C i acc Ω' ∧ Ok K (Fz Ω1 H1) Ω' Γ σ H', ⟨_, rfl, Nat.zero_le _, [], put Ω1 D [], h0, k1.re.new nD .nil⟩, ?_⟩
    rintro i m H' ⟨rfl, hi, acc, Ω', hm, k'⟩
    by_cases hlt : i < as.length
    · obtain ⟨hgo, hy⟩ := wk.go Ω' H' k'.bare (hC _ _ _ hm) i _ (List.getElem?_eq_getElem hlt)
      refine .inr ⟨hgo, fun H2 => ∃ acc Ω2, M D as C (i + 1) acc Ω2 ∧ Ok K (Fz Ω1 H1) Ω2 Γ σ H2, fun H2 ⟨acc2, Ω2, hm2, k2⟩ => ⟨_, by omega, rfl, by omega, acc2, Ω2, hm2, k2⟩, fun x H2 hyx => ?_⟩
      obtain ⟨s2, v2⟩ := hy x H2 hyx
      obtain ⟨eD, la, hb⟩ := hs i _ acc Ω' (List.getElem?_eq_getElem hlt) hm
      have k2 := k'.same s2
      refine hg x (L2.wipe σ vs) H2 _ _ (fun σ3 H3 l3 a3 q3 => ⟨wipe_agree l3 a3, q3⟩) ?_
      refine hb (Fz Ω' H2) (L2.wipe σ vs) H2 x _ (k2.re.wipe vs) v2 fun Γ3 σ3 Ω3 H3 h3 k3 => ?_
      refine h3 (Fz Ω3 H3) σ3 H3 _ k3.re fun b Ω4 H4 h4 k4 => ?_
      have k4' : Ok K (Fz Ω1 H1) Ω4 Γ σ H4 := k2.back ((k4.anchor k3.fr).bare)
      cases b with
      | true =>
        refine h4.1 rfl (Fz Ω4 H4) σ3 H4 _ k4.re fun y v Ω5 H5 ⟨e5, h5⟩ k5 v5 => ?_
        have k5' : Ok K (Fz Ω1 H1) Ω5 Γ σ H5 := k4'.back k5.bare
        obtain ⟨xs, hx, g5⟩ := k5.st D acc e5
        have l5 := g5.length
        exact ⟨xs, hx, sz_lt (by omega), _, _, h5, k5'.put e5 (g5.app (.cons v5 .nil))⟩
      | false => exact ⟨acc, Ω4, h4.2 rfl, k4'⟩
    · have ei : i = as.length := by omega
      subst ei
      exact .inl ⟨wk.stop Ω' H' k'.bare (hC _ _ _ hm), q _ _ _ _ (hd acc Ω' hm) (k'.anchor k1.fr) (.ptr D)⟩
theorem e_lcFC {α : Type} {wi : TI} {vs : List Nat} {P : Av → AH → Prop} (xs : List α) (enc : α → Av) (p : α → Bool) (out : α → PyData) (hg : GN g vs) (hz : xs.length ≤ 50000)
    (h : IWC K wi Γ Ω fun as C Ω1 => as = xs.map enc ∧ (∀ Ω', (∀ q bs, Ω1 q = some bs → Ω' q = some bs) → C Ω') ∧ (∀ x Ω', x ∈ xs → (∀ q bs, Ω1 q = some bs → Ω' q = some bs) → GW K g (enc x) (wipeA Γ vs) Ω' fun Γ2 Ω2 => Ω2 = Ω' ∧ TW K tt Γ2 Ω2 fun b Ω3 => Ω3 = Ω' ∧ b = p x ∧ (p x = true → EW K te Γ2 Ω3 fun y Ω4 => Ω4 = Ω' ∧ y = .dat (out x))) ∧
      P (.dat (.list ((xs.filter p).map out))) Ω1) : EW K (tLc wi g tt te vs) Γ Ω P := by
  refine EW.frz ?_
  refine e_lcC hg (fun D as C i acc Ω' => ∃ Ω1 : AH, Ω1 D = none ∧ as = xs.map enc ∧ acc = (((xs.take i).filter p).map out).map .dat ∧ Ω' = put Ω1 D acc ∧ (∀ Ω', (∀ q bs, Ω1 q = some bs → Ω' q = some bs) → C Ω') ∧ (∀ x Ω', x ∈ xs → (∀ q bs, Ω1 q = some bs → Ω' q = some bs) → GW K g (enc x) (wipeA Γ vs) Ω' fun Γ2 Ω2 => Ω2 = Ω' ∧ TW K tt Γ2 Ω2 fun b Ω3 => Ω3 = Ω' ∧ b = p x ∧ (p x = true → EW K te Γ2 Ω3 fun y Ω4 => Ω4 = Ω' ∧ y = .dat (out x))) ∧
      P (.dat (.list ((xs.filter p).map out))) Ω1) fun F σ H R k q => h F σ H R k fun as C Ω1 H1 J ⟨e, hc, hb, hp⟩ k1 wk => q as C Ω1 H1 J ⟨by rw [e, List.length_map]; exact hz, fun D nD => ⟨⟨Ω1, nD, e, by simp, rfl, hc, hb, hp⟩, fun i acc Ω' hm => ?_, fun i a acc Ω' ea hm => ?_, fun acc Ω' hm => ?_⟩⟩ k1 wk
  · obtain ⟨Ω0, n0, e0, rfl, rfl, hc0, hb0, hp0⟩ := hm
    exact hc0 _ fun q bs hq => by
      rw [put_ne (ne_of_Ω hq n0)]
      exact hq
  · obtain ⟨Ω0, n0, e0, rfl, rfl, hc0, hb0, hp0⟩ := hm
    subst e0
    rw [List.getElem?_map] at ea
    cases ex : xs[i]? with
    | none => rw [ex] at ea; cases ea
    | some x =>
      rw [ex] at ea
      cases ea
      have mx : x ∈ xs := List.mem_of_getElem? ex
      have tk : (xs.take (i + 1)).filter p = (xs.take i).filter p ++ (if p x = true then [x] else []) := by
        rw [List.take_add_one, ex, List.filter_append]
        show _ ++ (List.filter p [x]) = _
        rw [List.filter_cons, List.filter_nil]
      refine ⟨put_same, ?_, ?_⟩
      · rw [List.length_map, List.length_map]
        exact Nat.le_trans (List.length_filter_le ..) (by rw [List.length_take]; omega)
      refine fun F' σ' H' v Q' k' v' q' => hb0 x _ mx (fun q bs hq => by
        rw [put_ne (ne_of_Ω hq n0)]
        exact hq) F' σ' H' v Q' k' v' fun Γ2 σ2 Ω2 H2 ⟨e2, h2⟩ k2 => q' Γ2 σ2 Ω2 H2 ?_ k2
      subst e2
      refine fun F' σ' H' Q' k' q' => h2 F' σ' H' Q' k' fun b Ω3 H3 ⟨e3, eb, h3⟩ k3 => q' b Ω3 H3 ⟨fun hb => ?_, fun hb => ?_⟩ k3
      · subst e3
        refine (h3 (eb.symm.trans hb)).mono fun y Ω4 ⟨e4, ey⟩ => ?_
        subst e4 ey
        refine ⟨put_same, Ω0, n0, rfl, ?_, by rw [put_put], hc0, hb0, hp0⟩
        rw [tk, if_pos (eb.symm.trans hb), List.map_append, List.map_append]
        rfl
      · subst e3
        refine ⟨Ω0, n0, rfl, ?_, rfl, hc0, hb0, hp0⟩
        rw [tk, if_neg (by rw [← eb, hb]; decide), List.append_nil]
  · obtain ⟨Ω0, n0, e0, rfl, rfl, hc0, hb0, hp0⟩ := hm
    refine ⟨D, _, rfl, put_same, ?_⟩
    rw [del_put n0, e0, List.length_map, List.take_length]
    exact hp0
theorem e_lcMC {α : Type} {wi : TI} {vs : List Nat} {P : Av → AH → Prop} (xs : List α) (enc : α → Av) (out : α → PyData) (hg : GN g vs) (hz : xs.length ≤ 50000)
    (h : IWC K wi Γ Ω fun as C Ω1 => as = xs.map enc ∧ (∀ Ω', (∀ q bs, Ω1 q = some bs → Ω' q = some bs) → C Ω') ∧ (∀ x Ω', x ∈ xs → (∀ q bs, Ω1 q = some bs → Ω' q = some bs) → GW K g (enc x) (wipeA Γ vs) Ω' fun Γ2 Ω2 => Ω2 = Ω' ∧ EW K te Γ2 Ω2 fun y Ω4 => Ω4 = Ω' ∧ y = .dat (out x)) ∧
      P (.dat (.list (xs.map out))) Ω1) : EW K (tLc wi g tYes te vs) Γ Ω P :=
  e_lcFC xs enc (fun _ => true) out hg hz fun F σ H R k q => h F σ H R k fun as C Ω1 H1 J ⟨e, hc, hb, hp⟩ k1 wk => q as C Ω1 H1 J ⟨e, hc, fun x Ω' mx hq F' σ' H' v Q' k' v' q' => hb x Ω' mx hq F' σ' H' v Q' k' v' fun Γ2 σ2 Ω2 H2 ⟨e2, h2⟩ k2 => q' Γ2 σ2 Ω2 H2 ⟨e2, t_yes ⟨e2, rfl, fun _ => h2⟩⟩ k2, by
    rw [List.filter_eq_self.mpr (fun _ _ => rfl)]
    exact hp⟩ k1 wk
end
end Dat

set_option Elab.async false
set_option linter.all false
set_option maxRecDepth 100000
set_option maxHeartbeats 2000000
/-! own errors whose __init__ says super().__init__(f"..{place}..") and keeps the place -/
namespace Exf
open PySem PySem.W PySem.Calls PyProof.Rows PySem.HandSPX
abbrev nSelf : Str := "self"
abbrev nPlc : Str := "place"
/-- where things stand in the text of __init__ -/
structure Spots where
  (a1 a2 : Pos) (m1 m2 : Str) (k1 k2 : Nat)
  (p1 p2 p3 p4 p5 p6 p7 p8 p9 pa pb pc pd pe : Pos)
def inA (S : Spots) : Arguments := ⟨[], [⟨nSelf, none, S.a1⟩, ⟨nPlc, none, S.a2⟩], none, [], [], none, []⟩
def inMsg (S : Spots) : Expr := .JoinedStr [.Constant (.str S.m1) S.k1 S.p1, .FormattedValue (.Name nPlc S.p2) (-1) none S.p3, .Constant (.str S.m2) S.k2 S.p4] S.p5
def inS1 (S : Spots) : Stmt := .Expr (.Call (.Attribute (.Call (.Name "super" S.p6) [] [] S.p7) "__init__" S.p8) [inMsg S] [] S.p9) S.pa
def inS2 (S : Spots) : Stmt := .Assign [.Attribute (.Name nSelf S.pb) nPlc S.pc] (.Name nPlc S.pd) S.pe
def inB (S : Spots) : List Stmt := [inS1 S, inS2 S]
def inSc : Scope := { kind := .function, names := [(nSelf, .local), (nPlc, .local), (PySem.Str.ofString "__class__", .free), (PySem.Str.ofString "super", .globalImplicit)], isGenerator := false, isCoroutine := false, more := [] }
/-- what the written part says of such a class (x at C) and its __init__ (at fI) -/
structure Plc (P : Program) (K : Frag) (mg : Str → Option Value) (x : Str) (C : Addr) : Prop where
  gC : mg x = some (.ref C)
  cls : ∃ nm q N bs bm sn sub ab col dd k0 k1 k2 k3 k5, K.lookup C = some (excClassObj nm q C N bs bm true sn sub ab col dd k0 k1 k2 k3 k5 "ValueError.__new__") ∧ refsVE bm = true
  sa : findIn K (.ref C) "__setattr__" = some (some (.builtin "object.__setattr__"))
  noN : findIn K (.ref C) nPlc = some none
  kC : keepIn K (.ref C) = true
  exC : subIn K (.ref C) (.type "BaseException") = some true
  tyC : typeIn K (.ref C) = some (.type "type")
  sup : ks_superIn K C C "__init__" = some (some (.builtin "ValueError.__init__"))
  ve : subIn K (.ref C) (.type "ValueError") = some true
  any : nsIn K cStatics "thirdparty.any" = some none
  self : mroIn K C (.ref C) = some true
  su : mg "super" = none
  file : ∃ tf : Str, (P.main.file == tf) = true ∧ (P.main.scope.names.lookup ("super" : Str)).isSome = false ∧
    ∃ (fI cda cc : Addr) (qual : Str) (oc : Value) (od : Option Addr) (doc pm : Value) (an : Option Addr) (ct : Value) (osl : Array (Option Value)) (S : Spots) (ccl cl : Value) (cdd cld : Option Addr) (vs : Array Value) (ccs csl : Array (Option Value)) (t : Tok),
      findIn K (.ref C) "__init__" = some (some (.ref fI)) ∧ typeIn K (.ref fI) = some (.type "function") ∧
      K.lookup fI = some ⟨oc, od, .func (ksFn "__init__" qual (inA S) (inB S) inSc .none .none doc pm an (.ref cda) ct cc), osl⟩ ∧ codeIn K (.ref cda) qual = true ∧
      K.lookup cda = some ⟨ccl, cdd, .fields vs, ccs⟩ ∧ vs[2]? = some (.str tf t) ∧ K.lookup cc = some ⟨cl, cld, .cell (some (.ref C)), csl⟩ ∧ S.m1.length ≤ 200 ∧ S.m2.length ≤ 200 ∧ (S.p8.endLine == S.p9.line) = true
/-- what __init__ leaves of a fresh exception at x -/
structure Left (h h' : Heap) (x C dx : Addr) (v : Value) : Prop where
  keep : ∀ b o, b ≠ x → h.get? b = some o → h'.get? b = some o
  obj : ∃ t1 : Addr, h'.get? x = some { cls := .ref C, dict := some dx, data := .fields #[.ref t1, .none, .none, .none, .bool false, .none] }
  big : h.objs.size ≤ dx
  ne : dx ≠ x
  ns : h'.Ns1 dx (fun y => if y = nPlc then some v else none)
section
variable {prog : Program} {w : World} {A : Around} {E : Value → Shared → Prop} {R : Result → Shared → Prop} {s : Shared} {K : Frag} {mg mb : Str → Option Value}
/-- the built-in's __init__, bound, is called: the arguments are laid anew -/
theorem bound_init {h : Heap} {g : Array GenState} {d : Drawn} {t : Nat} {os : OsState} {nm q : Str} {C N u x t0 : Addr} {bs bm : List Value} {sn : List Str} {sub : List Value} {ab : Bool} {col : Option Bool} {dd : Option Addr} {k0 k1 k2 k3 k5 : Option Value}
    {ws : List Value} {Q : Value → Shared → Prop} (atC : h.get? C = some (excClassObj nm q C N bs bm true sn sub ab col dd k0 k1 k2 k3 k5 "ValueError.__new__")) (atU : h.get? u = some (kxs_mw "ValueError.__init__" x)) (atX : h.get? x = some (excO C t0)) (few : ws.length ≤ sizeLine)
    (fin : ∀ h' t1, (∀ b o, b ≠ x → h.get? b = some o → h'.get? b = some o) → h'.get? x = some (excO C t1) → Q .none ⟨h', g, d, t, os⟩) :
    wpAny (model prog w) A (call (.ref u) ws) Q E ⟨h, g, d, t, os⟩ := by
  have FB := F.excBase_ValueError
  refine wpAny_call (codeAny_of_tree ?tr)
  case tr =>
    show wpAny (model prog w) A.in1 (callAny (.ref u) ⟨ws, []⟩) _ _ _
    simp only [callAny]
    refine wpAny_bind (wpAny_load atU ?ld)
    simp only [kxs_mw]
    refine KFB.if_so (by decide) (wpAny_bind (check_bound_init FB.toExcCallFacts atC atX rfl ?ck))
    refine wpAny_bind (wpAny_pure (wpAny_pure ⟨plainId_quiet FB.init.plain _, codeAny_builtin FB.initEntry ?go⟩))
    exact exc_init_tree (e := x) (t0 := t0) (cls := .ref C) (dv := none) (c2 := .none) (c3 := .none) (b4 := .bool false) atX few fun h' k e' _ => fin h' _ k e'
theorem str_len (a b : Str) : (a ++ b).length = a.length + b.length := by
  simp [Str.length, Str.cps_append]
theorem nats_ok {i : Int} {m1 m2 : Str} (hi : i.natAbs.log2 < 1920) (h1 : m1.length ≤ 200) (h2 : m2.length ≤ 200) : (Str.empty ++ m1).length ≤ sizeLine ∧ (Str.empty ++ m1 ++ (toString i : Str)).length ≤ sizeLine ∧ (Str.empty ++ m1 ++ (toString i : Str) ++ m2).length ≤ sizeLine := by
  have e := int_text_length_le (k := 1920) (by decide) hi
  have e0 : (Str.empty).length = 0 := rfl
  have e2 : ((toString i : String) : Str).length = (toString i).length := PySem.ofString_length _
  simp only [str_len, sizeLine_eq]
  omega
theorem callForm {o : Expr} {S : Spots} {env : Env} (hpos : (S.p8.endLine == S.p9.line) = true) : eval (.Call (.Attribute o "__init__" S.p8) [inMsg S] [] S.p9) env = (do
    let ov ← attributeBase o "__init__" env (eval o env)
    standAt S.p8.atName
    let (f, first) ← holding [ov] (getMethod ov "__init__" (do return (← importBound o env).getD true))
    callWith S.p9 f first (backTo S.p9 (starEach [inMsg S] env)) []) := by
  rw [arm_eval_Call]
  have m : ∀ (b : Bool), methodCallPos b o env S.p8 S.p9 = pure S.p9 := fun b => by
    unfold methodCallPos
    rw [hpos, Bool.or_true, if_pos rfl]
  unfold methodCall
  simp only [m]
  rfl
theorem plc_init {x : Str} {C fI : Addr} (T : Plc prog K mg x C) (ifI : findIn K (.ref C) "__init__" = some (some (.ref fI))) {e t0 : Addr} {i : Int} {ti : Tok} (hi : i.natAbs.log2 < 1920) (X : K.In s.heap) (hG : s.heap.Ns mainGlobals mg) (hB : s.heap.Ns builtinsNs mb) (hb : mb "super" = bootBuiltins "super")
    (hlim : s.heap.NoLimit) (hx : s.heap.get? e = some (excO C t0)) (hnx : K.lookup e = none) (hroom : A.depth < recursionLimit)
    (fin : ∀ h' tk dx, Left s.heap h' e C dx (.int i ti) → R (.ok (.ret .none)) { s with heap := h', toks := tk }) :
    codeAny (model prog w) A (.call (.ref fI) ⟨[.ref e, .int i ti], []⟩) R s := by
  obtain ⟨tf, hfile, htop, fI', cda, cc, qual, oc, od, doc, pm, an, ct, osl, S, ccl, cl, cdd, cld, vs, ccs, csl, t, i', tI, ho, hcd, hcode, hvs, hcell, hm1, hm2, hpos⟩ := T.file
  rw [ifI] at i'
  cases i'
  obtain ⟨nm, q, N, bs, bm, sn, sub, ab, col, dd, k0, k1, k2, k3, k5, hC, hbm⟩ := T.cls
  have hcl : clsIn K C = some { name := nm, bases := bs, mro := .ref C :: bm, ns := N, qualname := q, hasDict := true, slotNames := sn, subclasses := sub, abstract := ab, collection := col, hasDel := false } := by unfold clsIn; rw [hC] <;> rfl
  have hcell0 : ∀ z ∈ inSc.names, z.2 ≠ .cell := by decide
  have hloc : ∀ z ∈ [(nSelf, Value.ref e), (nPlc, Value.int i ti)], inSc.names.lookup z.1 = some .local := fun z hz => by
    rcases List.mem_cons.mp hz with rfl | hz
    · rfl
    · rw [List.mem_singleton.mp hz]
      rfl
  have hbd : BindsTo s (ksFn "__init__" qual (inA S) (inB S) inSc .none .none doc pm an (.ref cda) ct cc) ⟨[.ref e, .int i ti], []⟩ [(nSelf, .ref e), (nPlc, .int i ti)] := BindsTo.of_eq (by first | rfl | with_unfolding_all rfl)
  refine ks_codeAny_call_defAt (body := inB S) hroom (X _ _ ho) rfl hlim (codeRec_of X hcd) rfl hbd hcell0 hloc (fun h1 hns k1 => ?_) rfl rfl rfl
  have X1 : K.In h1 := X.keeps k1
  have hxL : s.heap.objs.size ≠ e := Nat.ne_of_gt (Heap.lt_size hx)
  have G1 := hG.keeps k1
  have B1 := hB.keeps k1
  have e1 := k1 _ _ hx
  refine ks_wpAt_execs_cons (ks_wpAt_Expr_any (ks_wpAt_MethodCall ?_ (callForm hpos)))
  refine ks_wpAt_super_base rfl rfl rfl rfl (X1 _ _ ho) rfl rfl rfl (X1 _ _ hcode) rfl hvs hfile htop ?_
  refine ks_loadName_global rfl rfl (loadGlobal_builtin (env := callEnv _ _ _) G1 T.su B1 (hb.trans PyProof.Rows.Boot.«super») ⟨rfl, ?_⟩)
  refine wpAny_loadName_free rfl rfl rfl ⟨_, X1 _ _ hcell, rfl⟩ ?_
  refine wpAny_loadName_local rfl rfl hns (v := .ref e) (by first | rfl | with_unfolding_all rfl) ?_
  refine ks_wpAny_isType_cls (X1 _ _ hC) rfl ⟨rfl, ?_⟩
  refine ks_wpAny_call_super (X1 _ _ hC) rfl e1 rfl (fun c z => by cases z) (looks_mroIn X1 T.self) (fun h2 so2 k2 => ?_)
  have X2 : K.In h2 := X1.keeps k2
  have e2 := k2 _ _ e1
  have eC : e ≠ C := fun z => by
    rw [z, X2 _ _ hC] at e2
    cases e2
  have al := T.sup
  unfold ks_superIn at al
  rw [hcl] at al
  have iI : InstAt h2 e (excO C t0) C none := ⟨e2, rfl, rfl, trivial⟩
  have lm : Looks (model prog w) h2 (mroOf (.ref C)) (.ref C :: bm) := fun A Q E s k q => wpAny_bind ((looks_clsIn X2 hcl) A _ E s k (wpAny_pure q))
  refine kxs_getMethod kxs_ValueError so2 (looks_opaque X2 T.any) lm rfl X2 al (iI.type.andThen (looks_subIn X2 T.ve)) eC rfl ?_
  refine kxs_callWith (i := "ValueError.__init__") (x := e) rfl (evalArgs_plain (Calls.spliced_cons ?_))
  obtain ⟨l1, l2, l3⟩ := nats_ok hi hm1 hm2
  have k3 : ∀ b o, h1.get? b = some o → (h2.push (kxs_mw "ValueError.__init__" e)).get? b = some o := fun b o z => Heap.get?_push_of_some _ (k2 b o z)
  refine wpAny_JoinedStr (v₁ := .Constant (.str S.m1) S.k1 S.p1) (pos := S.p5) ?_
  refine wpAny_Constant_str ⟨S.m1, _, rfl, l1, ?_⟩
  refine wpAny_FormattedValue_plain (wpAny_Name (wpAny_loadName_local rfl rfl (hns.keeps k3) (v := .int i ti) (by first | rfl | with_unfolding_all rfl) ?_) (by decide))
  refine wpAny_formatField_int hi ⟨toString i, _, rfl, l2, ?_⟩
  refine wpAny_Constant_str ⟨S.m2, _, rfl, l3, ?_⟩
  refine ⟨l3, Calls.spliced_nil ⟨Heap.get?_push_size h2 rfl, ?_⟩⟩
  refine bound_init (k3 _ _ (X1 _ _ hC)) (Heap.get?_push_size h2 rfl) (k3 _ _ e1) (by rw [sizeLine_eq]; exact (by decide : 1 ≤ 16777216)) fun h4 t1 k4 e4 => ?_
  have k5 : ∀ b o, b ≠ e → s.heap.get? b = some o → h4.get? b = some o := fun b o hb z => k4 b o hb (k3 b o (k1 b o z))
  have X4 : K.In h4 := fun b o z => k4 b o (fun y => by
    rw [y, hnx] at z
    cases z) (k3 b o (X1 _ _ z))
  have n4 : h4.Ns s.heap.objs.size _ := hns.at fun o z => k4 _ o hxL (k3 _ o z)
  refine ks_wpAt_execs_cons (ks_wpAt_Assign_Attr ?_)
  refine wpAt_of_wpAny (wpAny_Name (wpAny_loadName_local rfl rfl n4 (v := .int i ti) (by first | rfl | with_unfolding_all rfl) ?_) (by decide))
  refine wpAny_Name (wpAny_loadName_local rfl rfl n4 (v := .ref e) (by first | rfl | with_unfolding_all rfl) ?_) (by decide)
  refine set_plain X4 (ox := excO C t1) (od := none) ⟨e4, rfl, rfl, trivial⟩ T.sa ?_
  refine exc_osa X4 e4 hcl (show refsVE (.ref C :: bm) = true from hbm) rfl T.noN (fun h5 tk5 dx k6 dn dne hx5 hn5 => ?_)
  show PySem.wpAt _ _ _ (execs [] _) _ _ _
  have z : s.heap.objs.size < h4.objs.size := n4.lt
  exact wpAt_of_wpAny (wpAny_execs_nil (fin h5 tk5 dx ⟨fun b o hb e => k6 b o hb (k5 b o hb e), ⟨t1, hx5⟩, Nat.le_of_lt (Nat.lt_of_lt_of_le z dn), dne, hn5⟩))
/-- a made one: its object, its dict -/
structure Made (h h' : Heap) (e C d : Addr) (v : Value) : Prop where
  keep : ∀ b o, h.get? b = some o → h'.get? b = some o
  new : h.objs.size ≤ e
  obj : ∃ oe vs, h'.get? e = some oe ∧ oe.cls = .ref C ∧ oe.dict = some d ∧ oe.data = .fields vs ∧ vs[1]? = some .none
  big : h.objs.size ≤ d
  ne : d ≠ e
  ns : h'.Ns1 d (fun y => if y = nPlc then some v else none)
theorem plc_made {x : Str} {C : Addr} (T : Plc prog K mg x C) {i : Int} {ti : Tok} (hi : i.natAbs.log2 < 1920) (X : K.In s.heap) (hG : s.heap.Ns mainGlobals mg) (hB : s.heap.Ns builtinsNs mb) (hb : mb "super" = bootBuiltins "super")
    (hlim : s.heap.NoLimit) (hroom : A.depth + 1 < recursionLimit)
    (fin : ∀ h' tk e d, Made s.heap h' e C d (.int i ti) → R (.ok (.ret (.ref e))) { s with heap := h', toks := tk }) :
    codeAny (model prog w) A (.call (.ref C) ⟨[.int i ti], []⟩) R s := by
  obtain ⟨nm, q, N, bs, bm, sn, sub, ab, col, dd, k0, k1, k2, k3, k5, hC, hbm⟩ := T.cls
  obtain ⟨tf, hfile, htop, fI, cda, cc, qual, oc, od, doc, pm, an, ct, osl, S, ccl, cl, cdd, cld, vs, ccs, csl, t, ifI, tI, _⟩ := T.file
  obtain ⟨hp, g, dr, tk, os⟩ := s
  obtain ⟨hn, ehn⟩ : ∃ hn : Heap, hn = (hp.push (kdv_tup [.int i ti])).push (excO C hp.objs.size) := ⟨_, rfl⟩
  have up : ∀ b o, hp.get? b = some o → hn.get? b = some o := fun b o z => by
    rw [ehn]
    exact Heap.get?_push_of_some _ (Heap.get?_push_of_some _ z)
  have atE : hn.get? (hp.objs.size + 1) = some (excO C hp.objs.size) := by
    rw [ehn]
    heap_get
  have noE : K.lookup (hp.objs.size + 1) = none := by
    cases z : K.lookup (hp.objs.size + 1) with
    | none => rfl
    | some o =>
      have y := Heap.lt_size (X _ _ z)
      exact absurd y (Nat.not_lt.mpr (Nat.le_succ _))
  refine call_own F.excBase_ValueError (fun Y => refsVE_contains Y bm hbm) (X _ _ hC) (looks_findIn X ifI) (fun self => bind_fn X self tI) (by rw [sizeLine_eq]; exact (by decide : 1 ≤ 16777216)) ?_
  rw [← ehn]
  refine plc_init (s := ⟨hn, g, dr, tk, os⟩) T ifI hi (X.keeps up) (hG.keeps up) (hB.keeps up) hb (hlim.keeps up) atE noE hroom fun h' tk' dx L => ?_
  have sz : hn.objs.size = hp.objs.size + 1 + 1 := by
    rw [ehn, Heap.size_push, Heap.size_push]
  have big : hp.objs.size + 1 + 1 ≤ dx := by
    have z : hn.objs.size ≤ dx := L.big
    rwa [sz] at z
  obtain ⟨t1, ob⟩ := L.obj
  exact ⟨rfl, fin h' tk' (hp.objs.size + 1) dx ⟨fun b o z => L.keep b o (Nat.ne_of_lt (Nat.lt_succ_of_lt (Heap.lt_size z))) (up b o z), Nat.le_succ _, ⟨_, _, ob, rfl, rfl, rfl, rfl⟩, by show hp.objs.size ≤ dx; omega, L.ne, L.ns⟩⟩
end
end Exf
namespace L2
open PySem PySem.Spec PyProof.Rows
/-- what stands in the dict of such an error -/
abbrev plcD (i : Int) : HO := .xd [(Exf.nPlc, .int i)]
theorem plc_rel {i : Int} {t : Tok} (f : Str) : RelO (List.lookup f [(Exf.nPlc, V.int i)]) (if f = Exf.nPlc then some (.int i t) else none) := by
  by_cases z : f = Exf.nPlc
  · subst z
    rw [if_pos rfl]
    have e : List.lookup Exf.nPlc [(Exf.nPlc, V.int i)] = some (V.int i) := by simp [List.lookup]
    rw [e]
    exact ⟨t, rfl⟩
  · rw [if_neg z]
    have e0 : (f == Exf.nPlc) = false := by simpa using z
    have e : List.lookup f [(Exf.nPlc, V.int i)] = none := by simp [List.lookup, e0]
    rw [e]
    trivial
/-- C(e): the error with its place -/
def tMkP (C : Addr) (ta : TA) : St → Hp → XK → Prop := fun σ H Q => ta σ H fun us H1 => ∃ i : Int, us = [.int i] ∧ i.natAbs.log2 < 1920 ∧ ∀ d, H1 d = none → Q (.ref C) (some d) (upd H1 d (plcD i))
section
variable {X : Cx} {C : Addr} {x : Str}
theorem pmk_plc {e : Expr} {ta : TA} {p pos : Pos} {k : Nat} (T : Exf.Plc X.prog X.K X.mg x C) (hr : Room (k + 1) X.A) (he : PA X [e] ta) (hg : Gl X x) (hdb : (x == ("__debug__" : Str)) = false := by decide)
    (hs : starEach [e] X.env = (false, eval e X.env) :: starEach [] X.env := by rfl) (hpl : (backTo pos (starEach [] X.env)).any (·.1) = false := by rfl) :
    PMk X (.Call (.Name x p) [e] [] pos) (tMkP C ta) := by
  intro pins s σ H Q I h
  refine wpAny_Call_Name_kw (ld_glob I hg T.gC ?_ hdb)
  refine PySem.W.callWith_K (h₀ := X.base) I.ok.mod.kin T.kC (thn (he.run pos pins s σ H _ I h) fun us s1 hh => ?_) hs hpl
  · obtain ⟨vs, H1, I1, r1, i, ev, hi, q⟩ := hh
    subst ev
    refine ⟨I1.kIn, ?_⟩
    cases r1 with
    | cons rv rn =>
      rename_i v' us'
      cases rn
      obtain ⟨ti, rfl⟩ := rv
      show wpAny _ _ (call (.ref C) [.int i ti]) _ _ _
      obtain ⟨mb, b1, b2⟩ := I1.mod.blt
      have hlim := I1.nolimit
      have gl := I1.mod.glob.keeps I1.bk
      have bl := b1.keeps I1.bk
      have kk := I1.kIn
      obtain ⟨hp, g, dr, tk, os⟩ := s1
      refine wpAny_call (Exf.plc_made T hi kk gl bl (b2 _ (by decide)) hlim (by have := hr.dp; omega) fun h' tk' e d M => ?_)
      show MkP X pins σ Q (.ref e) ⟨h', g, dr, tk', os⟩
      obtain ⟨oe, fv, hoe, hc, hd, hdat, h1⟩ := M.obj
      obtain ⟨G, in1, out1⟩ := restrict h' fun b => decide (b ≠ e)
      have same : ∀ b, b ≠ e → G.get? b = h'.get? b := fun b hb => in1 b (decide_eq_true hb)
      have gone : G.get? e = none := out1 e (by simp)
      have J : Inv X pins σ (upd H1 d (plcD i)) ⟨G, g, dr, tk', os⟩ := I1.laid (t' := tk') (fun b o z => (same b (Nat.ne_of_lt (Nat.lt_of_lt_of_le (Heap.lt_size z) M.new))).trans (M.keep b o z)) M.big
        ⟨_, M.ns.at (fun o z => (same d M.ne).trans z), fun f => plc_rel f⟩
      refine ⟨e, oe, fv, ⟨G, g, dr, tk', os⟩, _, .ref C, some d, rfl, J, fun b o z => ?_, gone, hoe, ⟨hc, hd⟩, hdat, h1, ?_, rfl, I1.bare, raises_own T.exC T.tyC, q d (I1.hok.fresh M.big)⟩
      · by_cases hb : b = e
        · have z' : G.get? b = some o := z
          rw [hb, gone] at z'
          cases z'
        · exact (same b hb).symm.trans z
      · rw [upd_ne (Ne.symm M.ne)]
        exact I1.hok.fresh M.new
end
end L2

set_option Elab.async false
set_option linter.all false
set_option maxRecDepth 100000
set_option maxHeartbeats 2000000
/-! isinstance of an own error that bears a dict -/
namespace Exf
open PySem PySem.W PySem.Calls PyProof.Rows PySem.Spec L2
section
variable {prog : Program} {w : World} {A : Around} {E : Value → Shared → Prop} {K : Frag} {x D : Addr} {ox : Obj} {od : Option Obj}
theorem bindsCls (T : ExcC K D) : findObj K D od "__class__" = some (.bind (.builtin "getset_descriptor.__get__") (.builtin "object.__class__")) := by
  obtain ⟨cd, hc, _⟩ := any_some T.hd
  unfold findObj
  rw [hc, Option.bind_some, T.ha, Option.bind_some]
  simp [T.hn, T.ht]
theorem asksCls (T : ExcC K D) {hh : Heap} {g : Array GenState} {d : Drawn} {t : Nat} {os : OsState} {Q : Option Value → Shared → Prop} (X : K.In hh) (I : InstAt hh x ox D od) (fin : Q (some (.ref D)) ⟨hh, g, d, t + 1, os⟩) :
    wpAny (model prog w) A (getAttr? (.ref x) "__class__") Q E ⟨hh, g, d, t, os⟩ := by
  have kTy := I.type (M := model prog w)
  have kGa := looks_findIn (M := model prog w) X T.hg
  have kGg := looks_findIn (M := model prog w) X T.hk
  have kF := looks_find (M := model prog w) X I (bindsCls T)
  have kB : Looks (model prog w) hh
      (isInstance (.ref x) (.type "BaseException")) true := kTy.andThen (looks_subIn X T.hs)
  have no1 : (Value.builtin "BaseException.__getattribute__" ==
      Value.builtin "object.__getattribute__") = false := by decide +kernel
  have no2 : (onTheHeap (Value.ref D) &&
      Value.builtin "BaseException.__getattribute__" == Value.builtin "object.__getattribute__") = false := by
    rw [no1]
    rfl
  have no3 : (false && onTheHeap (Value.builtin "BaseException.__getattribute__")) = false :=
    rfl
  have SGA := PySem.F.excAttr_ValueError.ga
  unfold getAttr? getAttrBy? getAttrBy
  refine wpAny_bind (wpAny_mkText (wpAny_bind (wpAny_attempt (wpAny_holding (wpAny_bind (kTy.at (wpAny_bind (kGa.at ?_))))))))
  show wpAny _ _ (if (onTheHeap (Value.ref D) &&
      Value.builtin "BaseException.__getattribute__" == Value.builtin "object.__getattribute__") = true then _ else _) _ _ _
  rw [no2, if_neg Bool.false_ne_true]
  unfold getAttrByItsOwn hookBefore
  refine wpAny_bind ?hook
  rw [if_pos (show onTheHeap (Value.ref D) = true by rfl)]
  refine kGg.at (wpAny_bind (wpAny_attempt (wpAny_holding ?own)))
  unfold callGetattribute
  rw [no3, if_neg Bool.false_ne_true]
  unfold boundAndCalled
  rw [SGA.bind (.ref x)]
  refine wpAny_bind (wpAny_pure ?called)
  show wpAny _ _ (call (.builtin "BaseException.__getattribute__")
    [.ref x, .str "__class__" t]) _ _ _
  refine wpAny_call (codeAny_call_builtin SGA.plain PySem.F.entry_bexc_ga ?code)
  refine @check_slot (model prog w) _ _ ⟨hh, g, d, t + 1, os⟩
    "BaseException.__getattribute__" "BaseException" "__getattribute__" (.ref x) [.str "__class__" t] [] _
    (by decide +kernel) (by decide +kernel) kB (PySem.F.args_bexc_ga (.ref x) (.str "__class__" t)) ?body
  unfold Builtin.«object.__getattribute__»
  refine wpAny_bind (wpAny_of_eq (a := ((Value.ref x : Value), [Value.str "__class__" t]))
    (by first | rfl | (simp only [slotArgs]; rfl)) ?_)
  refine wpAny_bind (wpAny_pure (wpAny_bind (kTy.at (wpAny_bind (kF.at ?_)))))
  show wpAny _ _ (holding [Value.builtin "object.__class__"]
    (call (.builtin "getset_descriptor.__get__") [.builtin "object.__class__", .ref x, .ref D]) >>= ret) _ _ _
  refine wpAny_bind (wpAny_holding (wpAny_call (class_get (s := ⟨hh, g, d, t + 1, os⟩) X I T.hm (wpAny_pure ?_))))
  show wpAny _ _ (handedOut (.ref D)) _ _ _
  rw [handedOut_of (v := .ref D) (by rfl)]
  first | exact wpAny_pure (wpAny_pure fin) | exact wpAny_pure fin | exact wpAny_pure (wpAny_bind (wpAny_pure (wpAny_pure fin)))
theorem kitE (T : ExcC K D) : KitX K (.ref x) (.ref D) (fun h => ∃ ox od, InstAt h x ox D od) where
  ty := fun _ _ _ ⟨_, _, I⟩ => I.type
  it := fun _ _ X _ => by
    obtain ⟨cd, hc, _⟩ := any_some T.hd
    unfold clsIn at hc
    split at hc
    · next c' d' cd' sl' ho =>
      intro A' Q' E' s' k q
      unfold isType loadHead
      exact wpAny_bind (wpAny_loadPart (k _ _ (X _ _ ho)) (wpAny_pure q))
    · cases hc
  ne := fun h tp dd its n sl X at_ => by
    obtain ⟨cd, hc, _⟩ := any_some T.hd
    refine Bool.eq_false_iff.mpr fun q => ?_
    obtain rfl : D = tp := Value.ref.inj (beq_iff_eq.mp q)
    unfold clsIn at hc
    split at hc
    · next c' d' cd' sl' ho =>
      cases (X _ _ ho).symm.trans at_
    · cases hc
  ca := fun {_ _ _ _ _ s} X ⟨_, _, I⟩ k => by
    obtain ⟨hh, g, d, t, os⟩ := s
    exact asksCls T X I k
end
end Exf
namespace L2
open PySem PySem.Spec PyProof.Rows
/-- isinstance(e, c), e the error that the suite holds, with its dict -/
def rIsP (K : PySem.W.Frag) (cls : Value) (d : Option Addr) (a : Addr) : List V → Hp → VK → Prop := fun xs H Q =>
  ∃ (D : Addr) (c : V) (cv : Value) (b : Bool), cls = .ref D ∧ ExcC K D ∧ xs = [.ref a, c] ∧ (∀ u, RelV c u → u = cv) ∧ PySem.W.kitOne K (.ref D) cv = some b ∧ (∀ dd, d = some dd → ∃ fs, H dd = some (.xd fs)) ∧ Q (.bl b) H
theorem call_isP {X : Cx} {a : Addr} {oe : Obj} {pn : List (Addr × Obj)} {cls : Value} {d : Option Addr} (hz : Zc cls d oe) (hf : ∃ vs, oe.data = .fields vs) : CallR (X.suite a ((a, oe) :: pn)) (.builtin "isinstance") (rIsP X.K cls d a) := by
  intro pins s σ H xs us Q I r h
  obtain ⟨D, c, cv, b, rfl, T, rfl, hcv, e, hd, q⟩ := h
  cases r with
  | cons rx rr =>
    cases rr with
    | cons rt rr =>
      cases rr
      cases rx
      have ec := hcv _ rt
      subst ec
      have hget := (I.pin (a, oe) (List.mem_append.mpr (.inl List.mem_cons_self))).1
      obtain ⟨vs, hv⟩ := hf
      have J : ∃ ox od, PySem.W.InstAt s.heap a ox D od := by
        obtain ⟨h1, h2⟩ := hz
        cases d with
        | none => exact ⟨oe, none, hget, h1, by unfold PySem.W.notCls; rw [hv], by rw [h2]; trivial⟩
        | some dd =>
          obtain ⟨fs, ed⟩ := hd dd rfl
          obtain ⟨mA, hns, _⟩ := (show ObjOk X.prog X.w H s.heap dd (.xd fs) from I.hok dd _ ed)
          obtain ⟨od, ho, _⟩ := lookIn_ns hns
          exact ⟨oe, some od, hget, h1, by unfold PySem.W.notCls; rw [hv], by rw [h2]; exact ho⟩
      exact PySem.W.kia_one (Exf.kitE T) I.kIn J e (fun z => nomatch z) fun tk => ⟨.bl b, H, I.kept (t' := tk) fun _ _ z => z, rfl, q⟩
end L2

set_option Elab.async false
set_option linter.all false
set_option maxRecDepth 100000
set_option maxHeartbeats 1000000
/-! defs that raise own errors, with a place or without; try .. except: over data -/
namespace Dat
open PySem PySem.Spec PyProof.Rows L2
/-- what is wished where an error of a class flies, with its place if it bears one -/
abbrev XAY := Value → Option Int → List (Option Av) → AH → Prop
def PlOk (F : Hp) : Option Int → Option Addr → Prop
  | none, d => d = none
  | some i, d => ∃ a, d = some a ∧ F a = some (plcD i)
theorem PlOk.same {F F' : Hp} (s : Same F F') : ∀ {pl : Option Int} {d : Option Addr}, PlOk F pl d → PlOk F' pl d
  | none, _, h => h
  | some _, _, ⟨a, e, h⟩ => ⟨a, e, s _ _ h⟩
def XOkY (K : PySem.W.Frag) [Tb K] (F : Hp) (xc : XAY) (W : WX) : Prop := ∀ cls pl d Γ σ Ω H, xc cls pl Γ Ω → Ok K F Ω Γ σ H → PlOk (Fz Ω H) pl d → W cls d σ H
def SWY (K : PySem.W.Frag) [Tb K] (W : WX) (ts : TS) (Γ : List (Option Av)) (Ω : AH) (E : EndA) (xc : XAY) : Prop :=
  ∀ (F : Hp) (σ : L2.St) (H : Hp) (D : Ends), Ok K F Ω Γ σ H → EndOk K F E D → XOkY K F xc W → ts D σ H
abbrev ASpY := List Av → AH → (Av → AH → Prop) → (Value → Option Int → AH → Prop) → Prop
def spY (K : PySem.W.Frag) [Tb K] (sp : ASpY) : Sp := fun vs H Q E => ∃ (F : Hp) (Ω : AH) (as : List Av) (P : Av → AH → Prop) (PX : Value → Option Int → AH → Prop), Ok K F Ω [] [] H ∧ VAll K (Fz Ω H) as vs ∧ sp as Ω P PX ∧
  (∀ a v Ω' H', P a Ω' → Ok K F Ω' [] [] H' → VOk K (Fz Ω' H') a v → Q v H') ∧ ∀ cls pl d Ω' H', PX cls pl Ω' → Ok K F Ω' [] [] H' → PlOk (Fz Ω' H') pl d → E cls d H'
/-- .. where nothing is raised -/
def noY (sp : ASpY) : ASp := fun as Ω P => sp as Ω P fun _ _ _ => False
def tRaiseY (C : Addr) (W : WX) : TS := fun _ σ H => W (.ref C) none σ H
def tRaiseY1 (C : Addr) (te : TE) (W : WX) : TS := fun _ σ H => te σ H fun _ H1 => W (.ref C) none σ H1
def tRaiseP (C : Addr) (ta : TA) (W : WX) : TS := fun _ σ H => tMkP C ta σ H fun cls d H' => W cls d σ H'
/-- the caught error, as a value, with its dict -/
def exA (a : Addr) : Option Int → Option Addr → Av
  | some i, some d => .fn a [(d, plcD i)] []
  | _, _ => .fn a [] []
section
variable {K : PySem.W.Frag} [Tb K] {Γ : List (Option Av)} {Ω : AH} {E : EndA} {xc : XAY} {W : WX} {te : TE} {t u : TS} {tt : TT} {tl : TA} {i : Nat} {C : Addr}
theorem exA_ok {F : Hp} {a : Addr} : ∀ {pl : Option Int} {d : Option Addr}, PlOk F pl d → VOk K F (exA a pl d) (.ref a)
  | none, _, _ => .fn (fun _ m => by cases m) fun _ m => by cases m
  | some i, _, ⟨d, e, h⟩ => by
    subst e
    exact .fn (fun p m => by rw [List.mem_singleton.mp m]; exact h) fun _ m => by cases m
theorem SWY.of (h : SW K t Γ Ω E) : SWY K W t Γ Ω E xc := fun F σ H D k e _ => h F σ H D k e
theorem sy_seq (h : SWY K W t Γ Ω { E with nx := fun Γ' Ω' => SWY K W u Γ' Ω' E xc } xc) : SWY K W (tSeq t u) Γ Ω E xc := fun F σ H D k e x =>
  h F σ H { D with nx := u D } k ⟨fun Γ' σ' Ω' H' h' k' => h' F σ' H' D k' e x, e.rt, e.bk, e.ct⟩ x
theorem sy_seqM (M : List (Option Av) → AH → Prop) (h : SWY K W t Γ Ω { E with nx := M } xc) (h2 : ∀ Γ' Ω', M Γ' Ω' → SWY K W u Γ' Ω' E xc) : SWY K W (tSeq t u) Γ Ω E xc := fun F σ H D k e x =>
  h F σ H { D with nx := u D } k ⟨fun Γ' σ' Ω' H' hm k' => h2 Γ' Ω' hm F σ' H' D k' e x, e.rt, e.bk, e.ct⟩ x
theorem sy_if (h : TW K tt Γ Ω fun b Ω1 => (b = true → SWY K W t Γ Ω1 E xc) ∧ (b = false → SWY K W u Γ Ω1 E xc)) : SWY K W (tIfS tt t u) Γ Ω E xc := fun F σ H D k e x =>
  h F σ H _ k fun b Ω1 H1 hp k1 => by
    cases b with
    | true => exact hp.1 rfl F σ H1 D k1 e x
    | false => exact hp.2 rfl F σ H1 D k1 e x
theorem sy_raise (h : xc (.ref C) none Γ Ω) : SWY K W (tRaiseY C W) Γ Ω E xc := fun F σ H D k e x => x _ _ _ _ _ _ _ h k rfl
theorem sy_raise1 (h : EW K te Γ Ω fun _ Ω1 => xc (.ref C) none Γ Ω1) : SWY K W (tRaiseY1 C te W) Γ Ω E xc := fun F σ H D k e x => h F σ H _ k fun a v Ω1 H1 h1 k1 v1 => x _ _ _ _ _ _ _ h1 k1 rfl
theorem sy_raiseP (h : AW K tl Γ Ω fun as Ω1 => ∃ z : Int, as = [.dat (.int z)] ∧ z.natAbs.log2 < 1920 ∧ xc (.ref C) (some z) Γ Ω1) : SWY K W (tRaiseP C tl W) Γ Ω E xc := fun F σ H D k e x =>
  h F σ H _ k fun as vs Ω1 H1 ⟨z, ea, hz, h1⟩ k1 v1 => by
    subst ea
    cases v1 with
    | cons v1 r1 =>
      cases r1
      cases v1 with
      | dat v1 =>
        cases v1
        exact ⟨z, rfl, hz, fun d nd => x _ _ _ _ _ _ _ h1 (k1.same (same_new nd)) ⟨d, rfl, Fz_at (k1.off nd)⟩⟩
/-- a call that may raise, as a statement; what it returns is bound, or returned -/
theorem sy_call {sp : ASpY} (h : AW K tl Γ Ω fun as Ω1 => sp as Ω1 (fun _ Ω' => E.nx Γ Ω') fun cls pl Ω' => xc cls pl Γ Ω') : SWY K W (tDrop (tCallS (spY K sp) (WE W) tl)) Γ Ω E xc := fun F σ H D k e x =>
  h F σ H _ k fun as vs Ω1 H1 h1 k1 v1 => ⟨Fz Ω1 H1, Ω1, as, _, _, k1.bare.re, v1, h1, fun a v Ω' H' hp k' hv => e.nx _ _ _ _ hp (k1.back k'), fun cls pl d Ω' H' hp k' y => x _ _ _ _ _ _ _ hp (k1.back k') y⟩
theorem sy_asgCall {sp : ASpY} (h : AW K tl Γ Ω fun as Ω1 => sp as Ω1 (fun a Ω' => E.nx (Γ.set i (some a)) Ω') fun cls pl Ω' => xc cls pl Γ Ω') : SWY K W (tAsg (tCallS (spY K sp) (WE W) tl) (gName i)) Γ Ω E xc := fun F σ H D k e x =>
  h F σ H _ k fun as vs Ω1 H1 h1 k1 v1 => ⟨Fz Ω1 H1, Ω1, as, _, _, k1.bare.re, v1, h1, fun a v Ω' H' hp k' hv => e.nx _ _ _ _ hp ((k1.back k').set hv i), fun cls pl d Ω' H' hp k' y => x _ _ _ _ _ _ _ hp (k1.back k') y⟩
theorem sy_retCall {sp : ASpY} (h : AW K tl Γ Ω fun as Ω1 => sp as Ω1 E.rt fun cls pl Ω' => xc cls pl Γ Ω') : SWY K W (tRet (tCallS (spY K sp) (WE W) tl)) Γ Ω E xc := fun F σ H D k e x =>
  h F σ H _ k fun as vs Ω1 H1 h1 k1 v1 => ⟨Fz Ω1 H1, Ω1, as, _, _, k1.bare.re, v1, h1, fun a v Ω' H' hp k' hv => e.rt _ _ _ _ hp ((k1.back k').bare) hv, fun cls pl d Ω' H' hp k' y => x _ _ _ _ _ _ _ hp (k1.back k') y⟩
/-- the ends of an except suite whose name stands in slot i -/
abbrev outY (E : EndA) (i : Nat) : EndA := { nx := fun Γ' Ω' => E.nx (Γ'.set i none) Ω', rt := E.rt, bk := fun Γ' Ω' => E.bk (Γ'.set i none) Ω', ct := fun Γ' Ω' => E.ct (Γ'.set i none) Ω' }
theorem Ok.clrY {F : Hp} {σ : L2.St} {H : Hp} (k : Ok K F Ω Γ σ H) (i : Nat) : Ok K F Ω (Γ.set i none) (σ.set i none) H := ⟨k.fr, k.st, k.sl.clear i, k.tb, k.ob⟩
/-- try: body; except c as n: suite, all that is raised being caught -/
theorem s_tryY {c : Value} {ts : Addr → Value → Option Addr → TS} {Wout : WX} {tb : WX → TS}
    (h : ∀ W, SWY K W (tb W) Γ Ω E fun cls pl Γ' Ω' => PySem.W.exmOne K cls c = some true ∧ ∀ a d, (pl = none → d = none) → (∀ z, pl = some z → ∃ dd, d = some dd) → SW K (ts a cls d) (Γ'.set i (some (exA a pl d))) Ω' (outY E i)) :
    SW K (fun D σ H => tb (wAs K c i ts Wout D) D σ H) Γ Ω E := fun F σ H D k e =>
  h _ F σ H D k e fun cls pl d Γ' σ' Ω' H' ⟨hc, hs⟩ k' hd => ⟨true, hc, fun _ a na => hs a d (fun z => by subst z; exact hd) (fun z ez => by subst ez; exact ⟨hd.choose, hd.choose_spec.1⟩) F _ H' _ (k'.set (exA_ok hd) i)
    ⟨fun Γ2 σ2 Ω2 H2 h2 k2 => e.nx _ _ _ _ h2 (k2.clrY i), fun a v Ω2 H2 h2 k2 v2 => e.rt _ _ _ _ h2 k2 v2, fun Γ2 σ2 Ω2 H2 h2 k2 => e.bk _ _ _ _ h2 (k2.clrY i), fun Γ2 σ2 Ω2 H2 h2 k2 => e.ct _ _ _ _ h2 (k2.clrY i)⟩, fun z => by cases z⟩
theorem s_tryOnlyY {c : Value} {ts : Addr → Value → Option Addr → TS} {Wout : WX} {tb : WX → TS}
    (h : ∀ W, SWY K W (tb W) Γ Ω E fun cls pl Γ' Ω' => PySem.W.exmOne K cls c = some true ∧ ∀ a d, SW K (ts a cls d) Γ' Ω' E) :
    SW K (fun D σ H => tb (wOnly K c ts Wout D) D σ H) Γ Ω E := fun F σ H D k e =>
  h _ F σ H D k e fun cls pl d Γ' σ' Ω' H' ⟨hc, hs⟩ k' hd => ⟨true, hc, fun _ a na => hs a d F _ H' _ k' e, fun z => by cases z⟩
/-- isinstance(e, c), e caught -/
theorem c_isP {D C' a : Addr} {pl : Option Int} {d : Option Addr} {b : Bool} {P : Av → AH → Prop} (hC : ExcC K D) (hk : PySem.W.kitOne K (.ref D) (.ref C') = some b) (hn : pl = none → d = none) (h : P (.dat (.bool b)) Ω) : RCW K (rIsP K (.ref D) d a) [exA a pl d, .ptr C'] Ω P := fun F H xs Q k hx q => by
  cases hx with | cons h1 hx => cases hx with | cons h2 hx =>
    cases hx
    cases h2
    have e1 : ∀ v, VOk K (Fz Ω H) (exA a pl d) v → v = .ref a ∧ ∀ dd, d = some dd → ∃ fs, H dd = some (.xd fs) := fun v hv => by
      cases pl with
      | none =>
        have z := hn rfl
        subst z
        cases hv with | fn _ _ => exact ⟨rfl, fun dd e => by cases e⟩
      | some i =>
        cases d with
        | none => cases hv with | fn _ _ => exact ⟨rfl, fun dd e => by cases e⟩
        | some dd => cases hv with | fn g _ => exact ⟨rfl, fun d2 e => by cases e; exact ⟨_, Fz_le _ _ (g (dd, plcD i) List.mem_cons_self)⟩⟩
    obtain ⟨rfl, hd⟩ := e1 _ h1
    exact ⟨D, .ref C', .ref C', b, rfl, hC, rfl, fun u r => r, hk, hd, q _ _ _ _ h k (.dat (.bl b))⟩
/-- e.place -/
theorem e_xf {D a dd : Addr} {z : Int} {P : Av → AH → Prop} (h : EW K te Γ Ω fun b Ω1 => b = exA a (some z) (some dd) ∧ P (.dat (.int z)) Ω1) : EW K (tXf a (.ref D) (some dd) D Exf.nPlc te) Γ Ω P := fun F σ H Q k q =>
  h F σ H _ k fun b v Ω1 H1 ⟨eb, hp⟩ k1 v1 => by
    subst eb
    cases v1 with | fn g _ =>
      exact ⟨rfl, rfl, dd, _, .int z, rfl, Fz_le _ _ (g (dd, plcD z) List.mem_cons_self), by simp [List.lookup], q _ _ _ _ hp k1 (.dat (.int z))⟩
theorem e_clsY {P : Av → AH → Prop} (h : P (.ptr C) Ω) : EW K (tC (.ref C)) Γ Ω P := fun F σ H Q k q => q _ _ Ω H h k (.ptr C)
end
section
variable {P : Program} {w : World} {K : PySem.W.Frag} [Tb K] {mg : Str → Option Value} {base : Heap}
theorem spY_len {sp : ASpY} {n : Nat} (len : ∀ as Ω P PX, sp as Ω P PX → as.length = n) : ∀ vs H Q E, spY K sp vs H Q E → vs.length = n := fun vs H Q E ⟨F, Ω, as, P, PX, k, va, h, _⟩ => va.length.trans (len as Ω P PX h)
/-- a def that may raise keeps its promise -/
theorem fnY_ok {x qual : Str} {st : Stmt} {f : Addr} {fd : FuncData} {N ps : List Str} {k : Nat} {sp : ASpY} (F : L2.Fun K x qual st f fd) (S : FnScope N ps (defScope st)) (len : ∀ as Ω P PX, sp as Ω P PX → as.length = ps.length)
    (hbody : ∀ (cdv : Value) (A : Around) (outer : List Env) (s : Shared) (H : Hp) (E : XK), Room k (A.deeper (envOfC qual (defScope st) s.heap.objs.size f cdv)) →
      Takes (cxOf (L2.CX P w) P w K mg base N qual (defScope st) f cdv A outer s H E) (fun cls d _ H' => E cls d H') →
      ∃ t : TS, PSs (cxOf (L2.CX P w) P w K mg base N qual (defScope st) f cdv A outer s H E) (defBody st) t ∧
      ∀ as Ω P PX, sp as Ω P PX → SWY K (fun cls d _ H' => E cls d H') t (as.map some ++ List.replicate (N.length - as.length) none) Ω { nx := fun _ Ω' => P (.dat .none) Ω', rt := P } fun cls pl _ Ω' => PX cls pl Ω') :
    FnOk P w K mg base (L2.CX P w) (k + 1) f fd ps (spY K sp) := by
  refine F.okX S (spY_len len) fun cdv A outer s H vs Q E hr h => ?_
  obtain ⟨t, ht, hs⟩ := hbody cdv A outer s H E hr (takes_of rfl rfl rfl rfl)
  obtain ⟨F0, Ω, as, P, PX, k0, va, h, hq, hx⟩ := h
  refine ⟨t, ht, hs as Ω P PX h F0 (L2.start N vs) H _ ⟨k0.fr, k0.st, ?_, k0.tb, k0.ob⟩ ⟨fun Γ' σ' Ω' H' hp k' => hq _ _ _ _ hp k'.bare (.dat .non), fun a v Ω' H' hp k' hv => hq _ _ _ _ hp k' hv, fun _ _ _ _ z => z.elim, fun _ _ _ _ z => z.elim⟩
    fun cls pl d Γ' σ' Ω' H' hp k' y => hx _ _ _ _ _ hp k'.bare y⟩
  unfold L2.start
  rw [va.length]
  exact Slots.start (N := N) va _
/-- .. called where it raises nothing -/
theorem fnY_noX {k : Nat} {f : Addr} {fd : FuncData} {ps : List Str} {sp : ASpY} (G : FnOk P w K mg base (L2.CX P w) k f fd ps (spY K sp)) : FnOk P w K mg base CX0 k f fd ps (spA K (noY sp)) := by
  have cv : ∀ vs H Q E, spA K (noY sp) vs H Q E → spY K sp vs H Q E0 := fun vs H Q E ⟨F, Ω, as, P, k0, va, h, hq⟩ => ⟨F, Ω, as, P, fun _ _ _ => False, k0, va, h, hq, fun _ _ _ _ _ z => z.elim⟩
  constructor
  · exact fun vs H Q E h => G.len vs H Q E0 (cv vs H Q E h)
  · intro A outer s H args us vs Q E hr e0 b r h
    refine codeAny_mono (G.run A outer s H args us vs Q E0 hr e0 b r (cv vs H Q E h)) fun r s' hq => ?_
    cases r with
    | ok fl => cases fl <;> exact hq
    | error e =>
      obtain ⟨_, _, _, _, _, _, _, _, _, _, _, _, z⟩ := hq
      exact z.elim
end
/-! ### derivations -/
/-- a class of the program under ValueError without its own __init__ -/
structure ExcDY (K : PySem.W.Frag) (mg : Str → Option Value) (x : Str) (C : Addr) : Prop where
  q : PySem.W.excIn K C PySem.HandSPX.veTail "ValueError.__new__" = true
  g : mg x = some (.ref C)
  kp : PySem.W.keepIn K (.ref C) = true
  s : PySem.W.subIn K (.ref C) (.type "BaseException") = some true
  t : PySem.W.typeIn K (.ref C) = some (.type "type")
section
variable {X : Cx} {K : PySem.W.Frag} {mg : Str → Option Value} {W : WX} {x : Str} {C : Addr}
theorem ps_raiseY {m : Str} {j : Nat} {p p2 pos pos' : Pos} (R : ExcDY K mg x C) (hK : X.K = K) (hm : X.mg = mg) (hc : X.calm = true) (tk : Takes X W) (hg : Gl X x) (hdb : (x == ("__debug__" : Str)) = false := by decide) :
    PS X (.Raise (some (.Call (.Name x p) [.Constant (.str m) j p2] [] pos)) none pos') (tRaiseY C W) := by
  subst hK hm
  exact ps_raise hc tk (pmk_own PySem.F.excBase_ValueError R.q R.g R.kp (raises_own R.s R.t) hg hdb)
theorem ps_raiseY1 {e : Expr} {te : TE} {p pos pos' : Pos} (R : ExcDY K mg x C) (hK : X.K = K) (hm : X.mg = mg) (hc : X.calm = true) (tk : Takes X W) (hg : Gl X x) (he : PE X e te)
    (hs : starEach [e] X.env = (false, eval e X.env) :: starEach [] X.env := by rfl) (hdb : (x == ("__debug__" : Str)) = false := by decide) :
    PS X (.Raise (some (.Call (.Name x p) [e] [] pos)) none pos') (tRaiseY1 C te W) := by
  subst hK hm
  exact ps_raise hc tk (SkE.pmk_own1 PySem.F.excBase_ValueError R.q R.g R.kp (raises_own R.s R.t) hg he hs hdb)
theorem ps_raiseP {e : Expr} {ta : TA} {p pos pos' : Pos} {P : Program} {k : Nat} (R : Exf.Plc P K mg x C) (hP : X.prog = P) (hK : X.K = K) (hm : X.mg = mg) (hc : X.calm = true) (hr : Room (k + 1) X.A) (tk : Takes X W) (hg : Gl X x) (he : PA X [e] ta)
    (hs : starEach [e] X.env = (false, eval e X.env) :: starEach [] X.env := by rfl) (hdb : (x == ("__debug__" : Str)) = false := by decide) :
    PS X (.Raise (some (.Call (.Name x p) [e] [] pos)) none pos') (tRaiseP C ta W) := by
  subst hP hK hm
  exact ps_raise hc tk (pmk_plc R hr he hg hdb hs)
end
end Dat

set_option Elab.async false
set_option linter.all false
set_option maxRecDepth 100000
set_option maxHeartbeats 2000000
/-! the caught error handed on, within the suite, to a def that raises nothing -/
namespace Exh
open PySem PySem.Spec PyProof.Rows L2
/-- what a def promises that is called in a suite; it knows the error's object q -/
structure FnP (P : Program) (w : World) (K : PySem.W.Frag) (mg : Str → Option Value) (base : Heap) (k : Nat) (f : Addr) (fd : FuncData) (ps : List Str) (sp : Addr × Obj → Sp) : Prop where
  len : ∀ q vs H Q, sp q vs H Q E0 → vs.length = ps.length
  run : ∀ (A : Around) (below : List Env) (s : Shared) (H : Hp) (gv : Args) (us : List Value) (vs : List V) (Q : VK) (q : Addr × Obj), L2H.RoomH k A → L2H.PinOk below H s q → Env0 P w K mg base A below s H → BindsTo s fd gv (ps.zip us) → Vals vs us →
    sp q vs H Q E0 → codeAny (model P w) A (.call (.ref f) gv) (CR CX0 below P w H s Q E0) s
section
variable {P : Program} {w : World} {K : PySem.W.Frag} {mg : Str → Option Value} {base : Heap}
theorem fnP_of {x qual : Str} {st : Stmt} {f : Addr} {fd : FuncData} {N ps : List Str} {k : Nat} {sp : Addr × Obj → Sp} (D : L2.Fun K x qual st f fd) (S : FnScope N ps (defScope st)) (len : ∀ q vs H Q, sp q vs H Q E0 → vs.length = ps.length)
    (text : ∀ (cdv : Value) (A : Around) (below : List Env) (s : Shared) (H : Hp) (vs : List V) (Q : VK) (q : Addr × Obj), L2H.RoomH k (A.deeper (envOfC qual (defScope st) s.heap.objs.size f cdv)) → sp q vs H Q E0 →
      ∃ t, PSs (L2H.cxH CX0 P w K mg base N qual (defScope st) f cdv A below s H E0 q) (defBody st) t ∧ t { nx := fun _ H' => Q .non H', rt := Q } (L2.start N vs) H) : FnP P w K mg base (k + 1) f fd ps sp := by
  obtain ⟨oc, od, kV, doc, pm, an, cdv, ct, osl, rfl, atF, isC⟩ := D.ex
  refine ⟨len, fun A below s H gv us vs Q q room pin e0 bnd rel wish => ?_⟩
  have kS : K.In s.heap := e0.mod.kin.keeps fun b o z => (e0.bs b o z).1
  have free : s.heap.NoLimit := e0.mod.nolimit.keeps fun b o z => (e0.bs b o z).1
  have kinds : ∀ y ∈ ps.zip us, (defScope st).names.lookup y.1 = some .local ∨ ((defScope st).names.lookup y.1 = some .cell ∧ ((cellsFrom (s.heap.objs.size + 1) (defScope st).names []).lookup y.1).isSome = true) := by
    rintro ⟨n, v⟩ m
    exact (S.par n (List.of_mem_zip m).1).imp id fun z => ⟨z, PySem.W.cellsFrom_some _ _ _ (.inl z)⟩
  refine codeAny_call_function room.depth (kS _ _ atF) rfl S.co S.gen rfl (PySem.W.codeRec_of kS isC) (bnd _ _ _ _ (wpAny_newFunctionEnv_cells S.kind kinds fun en een s1 laid => ?_))
  subst een
  obtain ⟨t, ht, hq⟩ := text cdv A below s H vs Q q (room.deeper _) wish
  have I := L2H.inv_startH (CX := CX0) (E := E0) (qual := qual) (f := f) (cd := cdv) S pin e0 (len _ _ _ _ wish) rel laid
  refine ⟨free.keeps laid.toInCall.keep, codeAny_func (wpAny_mono (ht.run [] s1 (L2.start N vs) H _ I hq) (fun fl s' h => ?_) fun _ _ h => h)⟩
  cases fl with
  | ret u =>
    obtain ⟨v, σ', H', J, rv, z⟩ := h
    exact ⟨v, H', J.os, J.bare, J.base, J.hok, rv, z⟩
  | next =>
    obtain ⟨σ', H', J, z⟩ := h
    exact ⟨V.non, H', J.os, J.bare, J.base, J.hok, rfl, z⟩
  | brk =>
    obtain ⟨_, _, _, z⟩ := h
    exact z.elim
  | cont =>
    obtain ⟨_, _, _, z⟩ := h
    exact z.elim
end
section
variable {X : Cx} {k : Nat} {f a : Addr} {oe : Obj} {pn : List (Addr × Obj)} {fd : FuncData} {ps : List Str} {sp : Addr × Obj → Sp} {x : Str} {p pos : Pos} {e : Expr} {es : List Expr} {t : TA}
/-- f(e, ..) in the suite, whatever the error's object -/
def tCallE (sp : Addr × Obj → Sp) (a : Addr) (cls : Value) (d : Option Addr) (t : TA) : TE := fun σ H Q => t σ H fun vs H1 => ∀ oe, Zc cls d oe → (∃ vs, oe.data = .fields vs) → sp (a, oe) vs H1 Q E0
theorem pe_callP {cls : Value} {d : Option Addr} (hz : Zc cls d oe) (hf : ∃ vs, oe.data = .fields vs) (F : FnP X.prog X.w X.K X.mg X.base k f fd ps sp) (hr : L2H.RoomH k X.A) (hg : Gl X x) (hm : X.mg x = some (.ref f)) (hk : PySem.W.keepIn X.K (.ref f) = true) (hb : Binds X.K fd ps []) (ha : PA (X.suite a ((a, oe) :: pn)) (e :: es) t)
    (hdb : (x == ("__debug__" : Str)) = false := by decide) (he : starEach (e :: es) X.env = (false, eval e X.env) :: starEach es X.env := by rfl) (hpl : (backTo pos (starEach es X.env)).any (·.1) = false := by rfl) :
    PE (X.suite a ((a, oe) :: pn)) (.Call (.Name x p) (e :: es) [] pos) (tCallE sp a cls d t) := by
  refine ⟨fun pins s σ H Q I h => wpAny_Call_Name_kw (ld_glob (X := X.suite a ((a, oe) :: pn)) I hg hm ?_ hdb)⟩
  refine PySem.W.callWith_K (h₀ := X.base) I.ok.mod.kin hk (thn (ha.run pos pins s σ H _ I h) fun us s1 hh => ?_) he hpl
  obtain ⟨vs, H1, J, rel, z⟩ := hh
  replace z := z oe hz hf
  refine ⟨J.kIn, ?_⟩
  have P1 := J.pin (a, oe) (List.mem_append_left _ List.mem_cons_self)
  have pin : L2H.PinOk X.stack H1 s1 (a, oe) := ⟨P1.1, P1.2.1, fun hm => (List.mem_cons.mp (J.stkSub a hm)).elim P1.2.2.1 P1.2.2.2.1, P1.2.2.2.2⟩
  have ln : us.length = ps.length := rel.length.symm.trans (F.len _ _ _ _ z)
  have b := hb s1 us J.kIn (by rw [List.append_nil]; exact ln)
  rw [List.append_nil] at b
  refine wpAny_call (codeAny_mono (F.run (X.suite a ((a, oe) :: pn)).A X.stack s1 H1 ⟨us, []⟩ us vs Q (a, oe) ⟨hr.dp, hr.un⟩ pin J.env0 b rel z) fun r s' y => ?_)
  cases r with
  | error _ => exact y.elim
  | ok fl =>
    cases fl with
    | ret u => exact J.after y
    | next => exact y.elim
    | brk => exact y.elim
    | cont => exact y.elim
/-- isinstance(e, c) behind the call -/
def rIsH (K : PySem.W.Frag) (q : Addr × Obj) : List V → Hp → VK → Prop := fun xs H Q => ∃ (D : Addr) (c : V) (cv : Value) (b : Bool) (d : Option Addr), (∃ vs, q.2.data = .fields vs) ∧ Zc (.ref D) d q.2 ∧ ExcC K D ∧ xs = [.ref q.1, c] ∧ (∀ u, RelV c u → u = cv) ∧
  PySem.W.kitOne K (.ref D) cv = some b ∧ (∀ dd, d = some dd → ∃ fs, H dd = some (.xd fs)) ∧ Q (.bl b) H
theorem call_isH {q : Addr × Obj} (hp : q ∈ X.pn) : CallR X (.builtin "isinstance") (rIsH X.K q) := by
  intro pins s σ H xs us Q I r h
  obtain ⟨D, c, cv, b, d, ⟨vs, hv⟩, ⟨h1, h2⟩, T, rfl, hcv, e, hd, z⟩ := h
  obtain ⟨a, oe⟩ := q
  cases r with
  | cons rx rr =>
    cases rr with
    | cons rt rr =>
      cases rr
      cases rx
      have ec := hcv _ rt
      subst ec
      have hget := (I.pin (a, oe) (List.mem_append_left _ hp)).1
      have J : ∃ ox od, PySem.W.InstAt s.heap a ox D od := by
        cases d with
        | none => exact ⟨oe, none, hget, h1, by unfold PySem.W.notCls; rw [hv], by rw [h2]; trivial⟩
        | some dd =>
          obtain ⟨fs, ed⟩ := hd dd rfl
          obtain ⟨mA, hns, _⟩ := (show ObjOk X.prog X.w H s.heap dd (.xd fs) from I.hok dd _ ed)
          obtain ⟨od, ho, _⟩ := lookIn_ns hns
          exact ⟨oe, some od, hget, h1, by unfold PySem.W.notCls; rw [hv], by rw [h2]; exact ho⟩
      exact PySem.W.kia_one (Exf.kitE T) I.kIn J e (fun y => nomatch y) fun tk => ⟨.bl b, H, I.kept (t' := tk) fun _ _ y => y, rfl, z⟩
/-- e.f where the class is told later -/
def tXfE (K : PySem.W.Frag) (a : Addr) (cls : Value) (d : Option Addr) (n : Str) (te : TE) : TE := fun σ H Q => ∃ C, XfC K C ∧ PySem.W.findIn K (.ref C) n = some none ∧ tXf a cls d C n te σ H Q
theorem pe_xfE {cls : Value} {d : Option Addr} {te : TE} {n : Str} (hz : Zc cls d oe) (hf : ∃ vs, oe.data = .fields vs) (he : PE (X.suite a ((a, oe) :: pn)) e te) (hb : attributeBase e n X.env (eval e X.env) = eval e X.env := by rfl) :
    PE (X.suite a ((a, oe) :: pn)) (.Attribute e n pos) (tXfE X.K a cls d n te) :=
  ⟨fun pins s σ H Q I ⟨_, T, hno, h⟩ => (pe_xf T hno hz hf he hb).run pins s σ H Q I h⟩
end
end Exh
namespace Dat
open PySem PySem.Spec PyProof.Rows L2 Exh
section
variable {P : Program} {w : World} {K : PySem.W.Frag} [Tb K] {mg : Str → Option Value} {base : Heap}
theorem fnPA_ok {x qual : Str} {st : Stmt} {f : Addr} {fd : FuncData} {N ps : List Str} {k : Nat} {sp : Addr × Obj → ASp} (D : L2.Fun K x qual st f fd) (S : FnScope N ps (defScope st)) (len : ∀ q as Ω P, sp q as Ω P → as.length = ps.length)
    (text : ∀ (cdv : Value) (A : Around) (below : List Env) (s : Shared) (H : Hp) (q : Addr × Obj), L2H.RoomH k (A.deeper (envOfC qual (defScope st) s.heap.objs.size f cdv)) →
      ∃ t, PSs (L2H.cxH CX0 P w K mg base N qual (defScope st) f cdv A below s H E0 q) (defBody st) t ∧ ∀ as Ω P, sp q as Ω P → SW K t (as.map some ++ List.replicate (N.length - as.length) none) Ω { nx := fun _ Ω' => P (.dat .none) Ω', rt := P }) :
    FnP P w K mg base (k + 1) f fd ps (fun q => spA K (sp q)) := by
  refine fnP_of D S (fun q vs H Q h => spA_len (len q) vs H Q E0 h) fun cdv A below s H vs Q q hr h => ?_
  obtain ⟨t, ht, hs⟩ := text cdv A below s H q hr
  obtain ⟨F0, Ω, as, P, k0, va, h, hq⟩ := h
  refine ⟨t, ht, hs as Ω P h F0 (L2.start N vs) H _ ⟨k0.fr, k0.st, ?_, k0.tb, k0.ob⟩ ⟨fun Γ' σ' Ω' H' hp k' => hq _ _ _ _ hp k'.bare (.dat .non), fun a v Ω' H' hp k' hv => hq _ _ _ _ hp k' hv, fun _ _ _ _ z => z.elim, fun _ _ _ _ z => z.elim⟩⟩
  unfold L2.start
  rw [va.length]
  exact Slots.start (N := N) va _
end
section
variable {K : PySem.W.Frag} [Tb K] {Γ : List (Option Av)} {Ω : AH} {te : TE} {tl : TA}
theorem exA_val {F H : Hp} {a : Addr} {pl : Option Int} {d : Option Addr} {v : V} (hn : pl = none → d = none) (h : VOk K F (exA a pl d) v) : v = .ref a ∧ ∀ dd, d = some dd → ∃ fs, F dd = some (.xd fs) := by
  cases pl with
  | none =>
    have z := hn rfl
    subst z
    cases h with | fn _ _ => exact ⟨rfl, fun dd e => by cases e⟩
  | some i =>
    cases d with
    | none => cases h with | fn _ _ => exact ⟨rfl, fun dd e => by cases e⟩
    | some dd => cases h with | fn g _ => exact ⟨rfl, fun d2 e => by cases e; exact ⟨_, g (dd, plcD i) List.mem_cons_self⟩⟩
/-- isinstance(e, c) in a def that was handed e -/
theorem c_isH {q : Addr × Obj} {D C' : Addr} {pl : Option Int} {d : Option Addr} {b : Bool} {P : Av → AH → Prop} (hf : ∃ vs, q.2.data = .fields vs) (hz : Zc (.ref D) d q.2) (hC : ExcC K D) (hk : PySem.W.kitOne K (.ref D) (.ref C') = some b) (hn : pl = none → d = none) (h : P (.dat (.bool b)) Ω) :
    RCW K (rIsH K q) [exA q.1 pl d, .ptr C'] Ω P := fun F H xs Q k hx z => by
  cases hx with | cons h1 hx => cases hx with | cons h2 hx =>
    cases hx
    cases h2
    obtain ⟨rfl, hd⟩ := exA_val (H := H) hn h1
    exact ⟨D, .ref C', .ref C', b, d, hf, hz, hC, rfl, fun u r => r, hk, fun dd e => (hd dd e).imp fun fs y => Fz_le _ _ y, z _ _ _ _ h k (.dat (.bl b))⟩
/-- isinstance(e, T), T built in, in the suite -/
theorem c_isPT {D a : Addr} {T : String} {pl : Option Int} {d : Option Addr} {b : Bool} {P : Av → AH → Prop} (hC : ExcC K D) (hk : PySem.W.kitOne K (.ref D) (.type T) = some b) (hn : pl = none → d = none) (h : P (.dat (.bool b)) Ω) : RCW K (rIsP K (.ref D) d a) [exA a pl d, .ty T] Ω P := fun F H xs Q k hx z => by
  cases hx with | cons h1 hx => cases hx with | cons h2 hx =>
    cases hx
    cases h2
    obtain ⟨rfl, hd⟩ := exA_val (H := H) hn h1
    exact ⟨D, .ty T, .type T, b, rfl, hC, rfl, fun u r => r, hk, fun dd e => (hd dd e).imp fun fs y => Fz_le _ _ y, z _ _ _ _ h k (.dat (.bl b))⟩
/-- a def called with the caught error -/
theorem e_callP {sp : Addr × Obj → ASp} {a : Addr} {cls : Value} {d : Option Addr} {P : Av → AH → Prop} (h : AW K tl Γ Ω fun as Ω1 => ∀ oe, Zc cls d oe → (∃ vs, oe.data = .fields vs) → sp (a, oe) as Ω1 P) : EW K (tCallE (fun q => spA K (sp q)) a cls d tl) Γ Ω P := fun F σ H Q k z =>
  h F σ H _ k fun as vs Ω1 H1 h1 k1 v1 oe e1 e2 => ⟨Fz Ω1 H1, Ω1, as, P, k1.bare.re, v1, h1 oe e1 e2, fun a v Ω' H' hp k' hv => z a v Ω' H' hp (k1.back k') hv⟩
theorem e_xfE {D a dd : Addr} {i : Int} {P : Av → AH → Prop} (T : XfC K D) (hno : PySem.W.findIn K (.ref D) Exf.nPlc = some none) (h : EW K te Γ Ω fun b Ω1 => b = exA a (some i) (some dd) ∧ P (.dat (.int i)) Ω1) : EW K (tXfE K a (.ref D) (some dd) Exf.nPlc te) Γ Ω P := fun F σ H Q k z =>
  ⟨D, T, hno, e_xf h F σ H Q k z⟩
end
end Dat

set_option Elab.async false
set_option linter.all false
set_option maxRecDepth 100000
set_option maxHeartbeats 2000000
/-! own errors made by keyword, whose place is read at once -/
namespace Exk
open PySem PySem.W PySem.Calls PyProof.Rows PySem.HandSPX
section
variable {prog : Program} {w : World} {A : Around} {E : Value → Shared → Prop} {R : Result → Shared → Prop} {hp : Heap} {gs : Array GenState} {dr : Drawn} {tk : Nat} {os : OsState}
variable {nm qn : Str} {C N : Addr} {bs bm : List Value} {sn : List Str} {sub : List Value} {ab : Bool} {col : Option Bool} {dd : Option Addr} {k0 k1 k2 k3 k5 : Option Value} {v : Value}
abbrev kwP (v : Value) : List (Str × Value) := [(Exf.nPlc, v)]
theorem lets_kw {Q : Unit → Shared → Prop} (hbm : refsVE bm = true) (atC : hp.get? C = some (excClassObj nm qn C N bs bm true sn sub ab col dd k0 k1 k2 k3 k5 "ValueError.__new__")) (fin : Q () ⟨hp, gs, dr, tk, os⟩) :
    wpAny (model prog w) A (checkBuiltinCall "ValueError.__new__" ⟨[.ref C], kwP v⟩) Q E ⟨hp, gs, dr, tk, os⟩ := by
  have F := F.excBase_ValueError
  have inB : (Value.ref C :: bm).contains (.type "ValueError") = true := by rw [List.contains_cons, refsVE_contains _ bm hbm, F.hasB, Bool.or_true]
  simp only [checkBuiltinCall, F.newKind, F.newSplit, F.newRow]
  repeat (first
    | refine wpAny_loadPart_at atC ?_
    | (refine wpAny_isSubtype_exc atC ?_; rw [inB])
    | refine wpAny_staticBase_exc atC ?_
    | refine wpAny_madeBy_exc atC ?_
    | simp only [bne_self_eq_false, Bool.false_eq_true, if_false]
    | wp_step)
  exact fin
theorem born_kw (hbm : refsVE bm = true) (atC : hp.get? C = some (excClassObj nm qn C N bs bm true sn sub ab col dd k0 k1 k2 k3 k5 "ValueError.__new__"))
    (fin : R (.ok (.ret (.ref (hp.objs.size + 1)))) ⟨(hp.push (kdv_tup [])).push (excO C hp.objs.size), gs, dr, tk, os⟩) :
    codeAny (model prog w) A (.builtin "ValueError.__new__" ⟨[.ref C], kwP v⟩) R ⟨hp, gs, dr, tk, os⟩ := by
  have F := F.excBase_ValueError
  have inB : (Value.ref C :: bm).contains (.type "ValueError") = true := by rw [List.contains_cons, refsVE_contains _ bm hbm, F.hasB, Bool.or_true]
  have noA : (Value.ref C :: bm).contains (.type "AttributeError") = false := by rw [List.contains_cons, refsVE_contains _ bm hbm, F.noAttr]; rfl
  have noN : (Value.ref C :: bm).contains (.type "NameError") = false := by rw [List.contains_cons, refsVE_contains _ bm hbm, F.noName]; rfl
  have ends := F.ends
  refine codeAny_builtinAt F.entry ?_
  unfold Builtin.«BaseException.__new__»
  refine PySem.wpAt_bind ?_
  show PySem.wpAt _ _ _ (stack >>= _) _ _ _
  refine PySem.wpAt_bind (PySem.wpAt_stack fun p below => PySem.wpAt_of_wpAny ?_)
  wp_walk
  refine PySem.wpAt_of_wpAny ?_
  rw [F.owner]
  repeat (first
    | with_reducible refine wpAny_madeHere_exc F.canon atC ?_
    | with_reducible refine wpAny_loadPart_at atC ?_
    | (with_reducible refine wpAny_isSubtype_exc atC ?_; first | rw [inB] | rw [noA] | rw [noN])
    | wp_step)
  show R _ _
  rw [Heap.size_push]
  exact fin
theorem tree_kw {fI : Addr} {Q : Fin → Shared → Prop} (hbm : refsVE bm = true) (atC : hp.get? C = some (excClassObj nm qn C N bs bm true sn sub ab col dd k0 k1 k2 k3 k5 "ValueError.__new__"))
    (hi : Looks (model prog w) hp (typeLookup (.ref C) "__init__") (some (.ref fI))) (hb : ∀ self, Looks (model prog w) hp (bindSpecial (.ref fI) self) (.ref fI, [self]))
    (fin : codeAny (model prog w) A (.call (.ref fI) ⟨[.ref (hp.objs.size + 1)], kwP v⟩)
      (fun r s' => match r with | .ok (.ret u) => u = .none ∧ Q (.done (.ret (.ref (hp.objs.size + 1)))) s' | .ok _ => False | .error e => E e s')
      ⟨(hp.push (kdv_tup [])).push (excO C hp.objs.size), gs, dr, tk, os⟩) :
    wpAny (model prog w) A (Builtin.«type.__call__» ⟨[.ref C], kwP v⟩) Q E ⟨hp, gs, dr, tk, os⟩ := by
  have F := F.excBase_ValueError
  repeat (first | with_reducible refine wpAny_loadPart_at atC ?_ | with_reducible refine wpAny_madeBy_exc atC ?_ | wp_step)
  refine codeAny_call_builtin_code (Code.quiet_builtin _ F.quiet) (lets_kw hbm atC ?_)
  refine born_kw hbm atC ?_
  show wpAny _ _ _ _ _ _
  have up : ∀ b o, hp.get? b = some o → ((hp.push (kdv_tup [])).push (excO C hp.objs.size)).get? b = some o := fun b o z => Heap.get?_push_of_some _ (Heap.get?_push_of_some _ z)
  have atC2 := up _ _ atC
  have atE : ((hp.push (kdv_tup [])).push (excO C hp.objs.size)).get? (hp.objs.size + 1) = some (excO C hp.objs.size) := by heap_get
  have inC : (Value.ref C :: bm).contains (.ref C) = true := by simp
  unfold isInstance
  repeat (first | with_reducible refine wpAny_loadPart_at atE ?_ | (with_reducible refine wpAny_isSubtype_exc atC2 ?_; rw [inC]) | wp_step)
  show wpAny _ _ (typeLookup (.ref C) _) _ _ _
  refine (hi.keeps up).at ?_
  refine wpAny_holding (wpAny_bind (((hb (.ref (hp.objs.size + 1))).keeps up).at ?_))
  refine wpAny_bind (wpAny_call (codeAny_mono fin fun r s' z => ?_))
  rcases r with e | (u | _ | _ | _) <;> first | exact z | exact z.elim | skip
  obtain ⟨rfl, z⟩ := z
  first
    | exact wpAny_pure (wpAny_pure z)
    | (wp_walk; exact z)
theorem call_kw {fI : Addr} (hbm : refsVE bm = true) (atC : hp.get? C = some (excClassObj nm qn C N bs bm true sn sub ab col dd k0 k1 k2 k3 k5 "ValueError.__new__"))
    (hi : Looks (model prog w) hp (typeLookup (.ref C) "__init__") (some (.ref fI))) (hb : ∀ self, Looks (model prog w) hp (bindSpecial (.ref fI) self) (.ref fI, [self]))
    (fin : codeAny (model prog w) (A.under (.builtin "type.__call__" ⟨[.ref C], kwP v⟩)) (.call (.ref fI) ⟨[.ref (hp.objs.size + 1)], kwP v⟩) (InitBack (hp.objs.size + 1) R)
      ⟨(hp.push (kdv_tup [])).push (excO C hp.objs.size), gs, dr, tk, os⟩) :
    codeAny (model prog w) A (.call (.ref C) ⟨[], kwP v⟩) R ⟨hp, gs, dr, tk, os⟩ := by
  have f1 := tc_lookup
  have f2 := tc_bind (.ref C)
  have isT : (⟨hp, gs, dr, tk, os⟩ : Shared).TypeIs (.ref C) "type" := ⟨_, atC, rfl⟩
  refine codeAny_of_tree ?_
  show wpAny _ _ (callAny (.ref C) _) _ _ _
  repeat (any_goals (first | assumption | with_reducible refine wpAny_loadPart_at atC ?_ | wp_step))
  refine ⟨rfl, ?_⟩
  refine codeAny_call_builtin_at (Code.quiet_builtin _ (by decide +kernel)) entry_typeCall (wpAny_check_type_call_sub atC (tree_kw hbm atC hi hb ?_))
  refine codeAny_mono fin fun r s' z => ?_
  rcases r with e | (u | _ | _ | _) <;> exact z
end
section
variable {prog : Program} {w : World} {A : Around} {E : Value → Shared → Prop} {R : Result → Shared → Prop} {s : Shared} {K : Frag} {mg mb : Str → Option Value}
theorem init_kw {x : Str} {C fI : Addr} (T : Exf.Plc prog K mg x C) (ifI : findIn K (.ref C) "__init__" = some (some (.ref fI))) {e t0 : Addr} {i : Int} {ti : Tok} (hi : i.natAbs.log2 < 1920) (X : K.In s.heap) (hG : s.heap.Ns mainGlobals mg) (hB : s.heap.Ns builtinsNs mb) (hb : mb "super" = bootBuiltins "super")
    (hlim : s.heap.NoLimit) (hx : s.heap.get? e = some (excO C t0)) (hnx : K.lookup e = none) (hroom : A.depth < recursionLimit)
    (fin : ∀ h' tk dx, Exf.Left s.heap h' e C dx (.int i ti) → R (.ok (.ret .none)) { s with heap := h', toks := tk }) :
    codeAny (model prog w) A (.call (.ref fI) ⟨[.ref e], kwP (.int i ti)⟩) R s := by
  obtain ⟨tf, hfile, htop, fI', cda, cc, qual, oc, od, doc, pm, an, ct, osl, S, ccl, cl, cdd, cld, vs, ccs, csl, t, i', tI, ho, hcd, hcode, hvs, hcell, hm1, hm2, hpos⟩ := T.file
  rw [ifI] at i'
  cases i'
  obtain ⟨nm, q, N, bs, bm, sn, sub, ab, col, dd, k0, k1, k2, k3, k5, hC, hbm⟩ := T.cls
  have hcl : clsIn K C = some { name := nm, bases := bs, mro := .ref C :: bm, ns := N, qualname := q, hasDict := true, slotNames := sn, subclasses := sub, abstract := ab, collection := col, hasDel := false } := by unfold clsIn; rw [hC] <;> rfl
  have hcell0 : ∀ z ∈ Exf.inSc.names, z.2 ≠ .cell := by decide
  have hloc : ∀ z ∈ [(Exf.nSelf, Value.ref e), (Exf.nPlc, Value.int i ti)], Exf.inSc.names.lookup z.1 = some .local := fun z hz => by
    rcases List.mem_cons.mp hz with rfl | hz
    · rfl
    · rw [List.mem_singleton.mp hz]
      rfl
  have hbd : BindsTo s (ksFn "__init__" qual (Exf.inA S) (Exf.inB S) Exf.inSc .none .none doc pm an (.ref cda) ct cc) ⟨[.ref e], kwP (.int i ti)⟩ [(Exf.nSelf, .ref e), (Exf.nPlc, .int i ti)] := BindsTo.of_eq (by first | rfl | with_unfolding_all rfl)
  refine ks_codeAny_call_defAt (body := Exf.inB S) hroom (X _ _ ho) rfl hlim (codeRec_of X hcd) rfl hbd hcell0 hloc (fun h1 hns k1 => ?_) rfl rfl rfl
  have X1 : K.In h1 := X.keeps k1
  have hxL : s.heap.objs.size ≠ e := Nat.ne_of_gt (Heap.lt_size hx)
  have G1 := hG.keeps k1
  have B1 := hB.keeps k1
  have e1 := k1 _ _ hx
  refine ks_wpAt_execs_cons (ks_wpAt_Expr_any (ks_wpAt_MethodCall ?_ (Exf.callForm hpos)))
  refine ks_wpAt_super_base rfl rfl rfl rfl (X1 _ _ ho) rfl rfl rfl (X1 _ _ hcode) rfl hvs hfile htop ?_
  refine ks_loadName_global rfl rfl (loadGlobal_builtin (env := callEnv _ _ _) G1 T.su B1 (hb.trans PyProof.Rows.Boot.«super») ⟨rfl, ?_⟩)
  refine wpAny_loadName_free rfl rfl rfl ⟨_, X1 _ _ hcell, rfl⟩ ?_
  refine wpAny_loadName_local rfl rfl hns (v := .ref e) (by first | rfl | with_unfolding_all rfl) ?_
  refine ks_wpAny_isType_cls (X1 _ _ hC) rfl ⟨rfl, ?_⟩
  refine ks_wpAny_call_super (X1 _ _ hC) rfl e1 rfl (fun c z => by cases z) (looks_mroIn X1 T.self) (fun h2 so2 k2 => ?_)
  have X2 : K.In h2 := X1.keeps k2
  have e2 := k2 _ _ e1
  have eC : e ≠ C := fun z => by
    rw [z, X2 _ _ hC] at e2
    cases e2
  have al := T.sup
  unfold ks_superIn at al
  rw [hcl] at al
  have iI : InstAt h2 e (excO C t0) C none := ⟨e2, rfl, rfl, trivial⟩
  have lm : Looks (model prog w) h2 (mroOf (.ref C)) (.ref C :: bm) := fun A Q E s k q => wpAny_bind ((looks_clsIn X2 hcl) A _ E s k (wpAny_pure q))
  refine kxs_getMethod kxs_ValueError so2 (looks_opaque X2 T.any) lm rfl X2 al (iI.type.andThen (looks_subIn X2 T.ve)) eC rfl ?_
  refine kxs_callWith (i := "ValueError.__init__") (x := e) rfl (evalArgs_plain (Calls.spliced_cons ?_))
  obtain ⟨l1, l2, l3⟩ := Exf.nats_ok hi hm1 hm2
  have k3 : ∀ b o, h1.get? b = some o → (h2.push (kxs_mw "ValueError.__init__" e)).get? b = some o := fun b o z => Heap.get?_push_of_some _ (k2 b o z)
  refine wpAny_JoinedStr (v₁ := .Constant (.str S.m1) S.k1 S.p1) (pos := S.p5) ?_
  refine wpAny_Constant_str ⟨S.m1, _, rfl, l1, ?_⟩
  refine wpAny_FormattedValue_plain (wpAny_Name (wpAny_loadName_local rfl rfl (hns.keeps k3) (v := .int i ti) (by first | rfl | with_unfolding_all rfl) ?_) (by decide))
  refine wpAny_formatField_int hi ⟨toString i, _, rfl, l2, ?_⟩
  refine wpAny_Constant_str ⟨S.m2, _, rfl, l3, ?_⟩
  refine ⟨l3, Calls.spliced_nil ⟨Heap.get?_push_size h2 rfl, ?_⟩⟩
  refine Exf.bound_init (k3 _ _ (X1 _ _ hC)) (Heap.get?_push_size h2 rfl) (k3 _ _ e1) (by rw [sizeLine_eq]; exact (by decide : 1 ≤ 16777216)) fun h4 t1 k4 e4 => ?_
  have k5 : ∀ b o, b ≠ e → s.heap.get? b = some o → h4.get? b = some o := fun b o hb z => k4 b o hb (k3 b o (k1 b o z))
  have X4 : K.In h4 := fun b o z => k4 b o (fun y => by
    rw [y, hnx] at z
    cases z) (k3 b o (X1 _ _ z))
  have n4 : h4.Ns s.heap.objs.size _ := hns.at fun o z => k4 _ o hxL (k3 _ o z)
  refine ks_wpAt_execs_cons (ks_wpAt_Assign_Attr ?_)
  refine wpAt_of_wpAny (wpAny_Name (wpAny_loadName_local rfl rfl n4 (v := .int i ti) (by first | rfl | with_unfolding_all rfl) ?_) (by decide))
  refine wpAny_Name (wpAny_loadName_local rfl rfl n4 (v := .ref e) (by first | rfl | with_unfolding_all rfl) ?_) (by decide)
  refine set_plain X4 (ox := excO C t1) (od := none) ⟨e4, rfl, rfl, trivial⟩ T.sa ?_
  refine exc_osa X4 e4 hcl (show refsVE (.ref C :: bm) = true from hbm) rfl T.noN (fun h5 tk5 dx k6 dn dne hx5 hn5 => ?_)
  show PySem.wpAt _ _ _ (execs [] _) _ _ _
  have z : s.heap.objs.size < h4.objs.size := n4.lt
  exact wpAt_of_wpAny (wpAny_execs_nil (fin h5 tk5 dx ⟨fun b o hb e => k6 b o hb (k5 b o hb e), ⟨t1, hx5⟩, Nat.le_of_lt (Nat.lt_of_lt_of_le z dn), dne, hn5⟩))
/-- C(place=i): its object, its dict -/
structure Born (h h' : Heap) (e C d : Addr) (v : Value) : Prop where
  keep : ∀ b o, h.get? b = some o → h'.get? b = some o
  obj : ∃ t1 : Addr, h'.get? e = some { cls := .ref C, dict := some d, data := .fields #[.ref t1, .none, .none, .none, .bool false, .none] }
  ns : h'.Ns1 d (fun y => if y = Exf.nPlc then some v else none)
theorem made_kw {x : Str} {C : Addr} (T : Exf.Plc prog K mg x C) {i : Int} {ti : Tok} (hi : i.natAbs.log2 < 1920) (X : K.In s.heap) (hG : s.heap.Ns mainGlobals mg) (hB : s.heap.Ns builtinsNs mb) (hb : mb "super" = bootBuiltins "super")
    (hlim : s.heap.NoLimit) (hroom : A.depth + 1 < recursionLimit)
    (fin : ∀ h' tk e d, Born s.heap h' e C d (.int i ti) → R (.ok (.ret (.ref e))) { s with heap := h', toks := tk }) :
    codeAny (model prog w) A (.call (.ref C) ⟨[], kwP (.int i ti)⟩) R s := by
  obtain ⟨nm, q, N, bs, bm, sn, sub, ab, col, dd, k0, k1, k2, k3, k5, hC, hbm⟩ := T.cls
  obtain ⟨tf, hfile, htop, fI, cda, cc, qual, oc, od, doc, pm, an, ct, osl, S, ccl, cl, cdd, cld, vs, ccs, csl, t, ifI, tI, _⟩ := T.file
  obtain ⟨hp, g, dr, tk, os⟩ := s
  obtain ⟨hn, ehn⟩ : ∃ hn : Heap, hn = (hp.push (kdv_tup [])).push (excO C hp.objs.size) := ⟨_, rfl⟩
  have up : ∀ b o, hp.get? b = some o → hn.get? b = some o := fun b o z => by
    rw [ehn]
    exact Heap.get?_push_of_some _ (Heap.get?_push_of_some _ z)
  have atE : hn.get? (hp.objs.size + 1) = some (excO C hp.objs.size) := by
    rw [ehn]
    heap_get
  have noE : K.lookup (hp.objs.size + 1) = none := by
    cases z : K.lookup (hp.objs.size + 1) with
    | none => rfl
    | some o =>
      have y := Heap.lt_size (X _ _ z)
      exact absurd y (Nat.not_lt.mpr (Nat.le_succ _))
  refine call_kw hbm (X _ _ hC) (looks_findIn X ifI) (fun self => bind_fn X self tI) ?_
  rw [← ehn]
  refine init_kw (s := ⟨hn, g, dr, tk, os⟩) T ifI hi (X.keeps up) (hG.keeps up) (hB.keeps up) hb (hlim.keeps up) atE noE hroom fun h' tk' dx L => ?_
  exact ⟨rfl, fin h' tk' (hp.objs.size + 1) dx ⟨fun b o z => L.keep b o (Nat.ne_of_lt (Nat.lt_succ_of_lt (Heap.lt_size z))) (up b o z), L.obj, L.ns⟩⟩
end
end Exk
namespace L2
open PySem PySem.Spec PyProof.Rows
/-- C(place=e).place -/
def tMkPl (ta : TA) : TE := fun σ H Q => ta σ H fun vs H1 => ∃ i : Int, vs = [.int i] ∧ i.natAbs.log2 < 1920 ∧ Q (.int i) H1
section
variable {X : Cx} {C : Addr} {x : Str}
theorem pe_mkPl {e : Expr} {ta : TA} {p pos kpos apos : Pos} {k : Nat} (T : Exf.Plc X.prog X.K X.mg x C) (F : XfC X.K C) (hr : Room (k + 1) X.A) (hk : PK X [⟨some Exf.nPlc, e, kpos⟩] ta) (hg : Gl X x) (hdb : (x == ("__debug__" : Str)) = false := by decide)
    (hall : (backToKw pos (keywordEach [⟨some Exf.nPlc, e, kpos⟩] X.env)).all (·.1.isSome) = true := by rfl)
    (hpl : ((backTo pos (starEach [] X.env)).any (·.1) || (backToKw pos (keywordEach [⟨some Exf.nPlc, e, kpos⟩] X.env)).any (·.1.isNone)) = false := by rfl)
    (hks : (backToKw pos (keywordEach [⟨some Exf.nPlc, e, kpos⟩] X.env)).filterMap (·.1) = [Exf.nPlc] := by rfl)
    (hb : attributeBase (.Call (.Name x p) [] [⟨some Exf.nPlc, e, kpos⟩] pos) Exf.nPlc X.env (eval (.Call (.Name x p) [] [⟨some Exf.nPlc, e, kpos⟩] pos) X.env) = eval (.Call (.Name x p) [] [⟨some Exf.nPlc, e, kpos⟩] pos) X.env := by rfl) :
    PE X (.Attribute (.Call (.Name x p) [] [⟨some Exf.nPlc, e, kpos⟩] pos) Exf.nPlc apos) (tMkPl ta) := by
  refine ⟨fun pins s σ H Q I h => ?_⟩
  refine attr_of hb (wpAny_Call_Name_kw (ld_glob I hg T.gC ?_ hdb))
  refine PySem.W.callWith_KW0 (h₀ := X.base) I.ok.mod.kin T.kC hall (thn (hk.run pos pins s σ H _ I h) fun us s1 hh => ?_) hpl
  · obtain ⟨vs, H1, I1, r1, i, ev, hi, z⟩ := hh
    subst ev
    cases r1 with
    | cons rv rn =>
      cases rn
      obtain ⟨ti, rfl⟩ := rv
      refine ⟨I1.kIn, ?_⟩
      rw [hks]
      show wpAny _ _ (call (.ref C) [] (Exk.kwP (.int i ti))) _ _ _
      obtain ⟨mb, b1, b2⟩ := I1.mod.blt
      refine wpAny_call (Exk.made_kw T hi I1.kIn (I1.mod.glob.keeps I1.bk) (b1.keeps I1.bk) (b2 _ (by decide)) I1.nolimit (by have := hr.dp; show X.A.depth + 1 < _; omega) fun h' tk' e d M => ?_)
      obtain ⟨t1, ho⟩ := M.obj
      have J := I1.kept (h' := h') (t' := tk') M.keep
      obtain ⟨od, hod, hl⟩ := lookIn_ns M.ns
      have A1 : PySem.W.InstAt h' e _ C (some od) := ⟨ho, rfl, rfl, hod⟩
      exact HandSPX.exc_get J.kIn A1 F.ga F.gg F.exC (PySem.W.findObj_own F.hdC T.noN rfl (by rw [hl, if_pos rfl])) (handed_of (v := .int i) ⟨ti, rfl⟩) ⟨.int i, H1, J.tok _, ⟨ti, rfl⟩, z⟩
end
end L2

set_option Elab.async false
set_option linter.all false
set_option maxRecDepth 100000
set_option maxHeartbeats 2000000
/-! the end of a law that shows data as texts and has no code table -/
namespace Grd
open PySem PySem.Spec PyProof.Rows L2
theorem law_callG0 {P : Program} {w : World} {K : PySem.W.Frag} {mg mb : Str → Option Value} {k : Nat} {fa a : Addr} {fd : FuncData} {x : Str} {sp : Sp} {s₁ : Shared} {vs : List Value} {ns : List Int}
    (KX : K.In s₁.heap) (hns : s₁.heap.Ns mainGlobals mg) (hb : s₁.heap.Ns builtinsNs mb) (hbb : ∀ x : Str, x ≠ "__name__" → mb x = bootBuiltins x) (hlim : s₁.heap.NoLimit) (hg : s₁.gens = #[])
    (ha : s₁.heap.get? a = some { cls := .type "list", data := .seq vs.toArray }) (hi : IntsAre vs ns) (hl : ns.length ≤ sizeLine) (hr : Room k callerA)
    (F : ∀ base : Heap, K.In base → base.Ns mainGlobals mg → FnG P w K mg base CX0 k fa fd [x] sp) (hbind : ∀ (s : Shared) (u : Value), BindsTo s fd ⟨[u], []⟩ [(x, u)])
    (hsp : ∀ H : Hp, SqL K H a (ns.map V.int) → sp [.ref a] H (fun v _ => v = .bl true) fun _ _ _ => False) :
    codeAny (model P w) callerA (.call (.ref fa) ⟨[.ref a], []⟩) (fun r s' => r = .ok (.ret (.bool true)) ∧ OldK s₁.heap s'.heap ∧ s'.os = s₁.os ∧ AllBare s'.gens) s₁ := by
  have rv := vals_ints hi
  have lenV := hi.length
  obtain ⟨scr, hscr⟩ : ∃ scr : Option HO, scr = (match K.lookup a with | some _ => none | none => some (HO.frz { cls := .type "list", data := .seq vs.toArray } (.lst (ns.map V.int)))) := ⟨_, rfl⟩
  obtain ⟨H, hH⟩ : ∃ H : Hp, H = fun b => if b = a then scr else none := ⟨_, rfl⟩
  have Ha : H a = scr := by
    rw [hH]
    exact if_pos rfl
  have Hn : ∀ b, b ≠ a → H b = none := fun b h2 => by
    rw [hH]
    exact if_neg h2
  have scrC : scr = none ∨ scr = some (HO.frz { cls := .type "list", data := .seq vs.toArray } (.lst (ns.map V.int))) := by
    rw [hscr]
    cases K.lookup a with
    | some o => exact .inl rfl
    | none => exact .inr rfl
  have free : ∀ {b : Addr} {o : Obj}, s₁.heap.get? b = some o → (∀ v n, o.data ≠ .seq v n) → H b = none := fun {b o} e h1 => by
    refine Hn b fun z => ?_
    rw [z, ha] at e
    cases e
    exact h1 _ _ rfl
  have freeD : ∀ {b : Addr} {o : Obj} {es : Array DictEntry} {n : Nat}, s₁.heap.get? b = some o → o.data = .dict es n → H b = none := fun {b o es n} e d =>
    free e (fun v m z => by rw [d] at z; cases z)
  have ns_ : ∀ {b : Addr} {m : Str → Option Value}, s₁.heap.Ns b m → (hidT s₁.heap H).Ns b m := fun {b m} h => by
    obtain ⟨o, es, ep, e, d, r⟩ := h
    exact ⟨o, es, ep, hidT_get e (freeD e d), d, r⟩
  have kb : K.In (hidT s₁.heap H) := fun b o e => by
    refine hidT_get (KX b o e) ?_
    by_cases h2 : b = a
    · rw [h2, Ha, hscr]
      rw [h2] at e
      rw [e]
    · exact Hn b h2
  have hok : HOk P w H s₁.heap := fun b u e => by
    by_cases h2 : b = a
    · rw [h2, Ha] at e
      rcases scrC with z | z
      · rw [z] at e
        cases e
      · rw [z] at e
        cases e
        rw [h2]
        exact ⟨ha, by rw [List.length_map]; exact hl, vs, _, rv, ha⟩
    · rw [Hn b h2] at e
      cases e
  have md : L2.Mod K mg (hidT s₁.heap H) := by
    obtain ⟨mc, h1, h2⟩ := hlim
    exact ⟨kb, ns_ hns, ⟨mb, ns_ hb, hbb⟩, mc, ns_ h1, h2⟩
  have e0 : Env0 P w K mg (hidT s₁.heap H) callerA [] s₁ H := by
    refine ⟨rfl, md, fun b o e => of_hidT e, Nat.le_of_eq (hidT_size _ _), trivial, fun b hb => ?_, hok, .of_eq hg⟩
    cases (show b ∈ ([] : List Addr) from hb)
  have sq : SqL K H a (ns.map V.int) := by
    cases hk : K.lookup a with
    | some o =>
      have e := KX a o hk
      rw [ha] at e
      cases e
      exact .inr ⟨_, vs.toArray, _, hk, rfl, rfl, rfl, by rw [List.size_toArray, lenV]; exact hl, by simpa using rv⟩
    | none =>
      refine .inl (.inr ⟨{ cls := .type "list", data := .seq vs.toArray }, ?_⟩)
      rw [Ha, hscr, hk]
  refine codeAny_mono ((F _ kb (ns_ hns)).run callerA [] s₁ H ⟨[.ref a], []⟩ [.ref a] [.ref a] _ _ hr rfl e0 (hbind s₁ (.ref a)) (.cons rfl .nil) (hsp H sq)) fun r s' h => ?_
  cases r with
  | error e => exact (show False from h).elim
  | ok fl =>
    cases fl with
    | next => exact (show False from h).elim
    | brk => exact (show False from h).elim
    | cont => exact (show False from h).elim
    | ret u =>
      obtain ⟨v, H', os, bare, un, hok', r', q⟩ := h
      cases (show v = .bl true from q)
      cases (show u = Value.bool true from r')
      have key : ∀ b o, s₁.heap.get? b = some o → s'.heap.get? b = some o := fun b o e => by
        by_cases h2 : b = a
        · rcases scrC with z | z
          · exact un.keep b o e (by rw [h2, Ha, z]) (fun q => by cases (show b ∈ ([] : List Addr) from q)) (fun q => by cases q)
          · have z1 : H b = some (HO.frz { cls := .type "list", data := .seq vs.toArray } (.lst (ns.map V.int))) := by rw [h2, Ha, z]
            obtain ⟨e1, _⟩ := hok b _ z1
            obtain ⟨e2, _⟩ := hok' b _ (un.frzs b _ _ z1)
            rw [e] at e1
            cases e1
            exact e2
        · exact un.keep b o e (Hn b h2) (fun q => by cases (show b ∈ ([] : List Addr) from q)) (fun q => by cases q)
      exact ⟨rfl, ⟨fun b o e => .inl (key b o e), fun b o e => ⟨o, key b o e⟩⟩, os, bare⟩
/-- the end of a law's row, no table -/
theorem walk_ofG0 {l : PySem.W.OpenLaw} {n k : Nat} {q : Program} {loose : List Str} {XP : (Str → Option Value) → Heap → Prop} {YP : World → Heap → Prop} {d : DefRec} {K : Params → PySem.W.Frag} {x : Str}
    (hn : l.most = some n) (hn2 : n ≤ sizeLine) (hdf : d.params.defaults = []) (hr : Room k callerA) (hY : ∀ (w : World) (h : Heap), YP w h → (K w.params).In h)
    (F : ∀ (w : World) (mg : Str → Option Value) (fa : Addr) (h : Heap), (K w.params).In h → h.Ns mainGlobals mg → mg d.name = some (.ref fa) →
      ∃ (fd : FuncData) (sp : Sp), (∀ (s : Shared) (u : Value), BindsTo s fd ⟨[u], []⟩ [(x, u)]) ∧
        (∀ (H : Hp) (a : Addr) (ns : List Int), ns.length ≤ n → SqL (K w.params) H a (ns.map V.int) → sp [.ref a] H (fun v _ => v = .bl true) fun _ _ _ => False) ∧
        ∀ base : Heap, (K w.params).In base → base.Ns mainGlobals mg → FnG l.prog w (K w.params) mg base CX0 k fa fd [x] sp) :
    PySem.W.WalkO q loose XP YP l.row.toRowW d [] (fun f vs => PySem.call f vs) := by
  refine Att.attach_callB hn hdf fun w s₀ s₁ mg mb fa o pm cd doc a vs ns G Y ho hd hcd hmg hobj hints hlen hbits hg => ?_
  have KX := hY w _ Y
  obtain ⟨fd, sp, hb, hsp, hF⟩ := F w mg fa _ KX G.T.g hmg
  exact law_callG0 KX G.T.g G.T.b G.T.builtins G.T.nolimit hg hobj hints (Nat.le_trans hlen hn2) hr hF hb fun H hS => hsp H a ns hlen hS
end Grd

set_option Elab.async false
set_option linter.all false
set_option maxRecDepth 100000
set_option maxHeartbeats 4000000
namespace K00
open PySem PySem.Spec PyProof.Rows L2 Dat Exh
def topS (i : Nat) : Stmt := PySem.Challenge.pw_parlourday_k00_error_classes.main.body.getD i (.Pass ⟨0, 0, 0, 0⟩)
abbrev s__law_hand : Stmt := topS 31
abbrev N__law_hand : List Str := ["_law_script"]
theorem sc__law_hand : FnScope ["_law_script"] ["_law_script"] (defScope s__law_hand) := ⟨rfl, rfl, rfl, by decide +kernel, rfl, by decide +kernel, by decide +kernel⟩
abbrev s__law_draw : Stmt := topS 32
abbrev N__law_draw : List Str := ["_law_hand_here", "_law_size", "_law_value", "_law_cell", "_law_mixed"]
theorem sc__law_draw : FnScope ["_law_hand_here", "_law_size", "_law_value", "_law_cell", "_law_mixed"] ["_law_hand_here", "_law_size"] (defScope s__law_draw) := ⟨rfl, rfl, rfl, by decide +kernel, rfl, by decide +kernel, by decide +kernel⟩
abbrev s__law_raise : Stmt := topS 33
abbrev N__law_raise : List Str := ["_law_kind", "_law_text"]
theorem sc__law_raise : FnScope ["_law_kind", "_law_text"] ["_law_kind", "_law_text"] (defScope s__law_raise) := ⟨rfl, rfl, rfl, by decide +kernel, rfl, by decide +kernel, by decide +kernel⟩
abbrev s__law_raise_more : Stmt := topS 34
abbrev N__law_raise_more : List Str := ["_law_kind", "_law_text"]
theorem sc__law_raise_more : FnScope ["_law_kind", "_law_text"] ["_law_kind", "_law_text"] (defScope s__law_raise_more) := ⟨rfl, rfl, rfl, by decide +kernel, rfl, by decide +kernel, by decide +kernel⟩
abbrev s__law_raise_last : Stmt := topS 35
abbrev N__law_raise_last : List Str := ["_law_kind", "_law_text", "_law_spot"]
theorem sc__law_raise_last : FnScope ["_law_kind", "_law_text", "_law_spot"] ["_law_kind", "_law_text", "_law_spot"] (defScope s__law_raise_last) := ⟨rfl, rfl, rfl, by decide +kernel, rfl, by decide +kernel, by decide +kernel⟩
abbrev s__law_marks : Stmt := topS 36
abbrev N__law_marks : List Str := ["_law_e", "_law_found"]
theorem sc__law_marks : FnScope ["_law_e", "_law_found"] ["_law_e"] (defScope s__law_marks) := ⟨rfl, rfl, rfl, by decide +kernel, rfl, by decide +kernel, by decide +kernel⟩
abbrev s__law_more_marks : Stmt := topS 37
abbrev N__law_more_marks : List Str := ["_law_e", "_law_found"]
theorem sc__law_more_marks : FnScope ["_law_e", "_law_found"] ["_law_e"] (defScope s__law_more_marks) := ⟨rfl, rfl, rfl, by decide +kernel, rfl, by decide +kernel, by decide +kernel⟩
abbrev s__law_last_marks : Stmt := topS 38
abbrev N__law_last_marks : List Str := ["_law_e"]
theorem sc__law_last_marks : FnScope ["_law_e"] ["_law_e"] (defScope s__law_last_marks) := ⟨rfl, rfl, rfl, by decide +kernel, rfl, by decide +kernel, by decide +kernel⟩
abbrev s__law_right : Stmt := topS 39
abbrev N__law_right : List Str := ["_law_kind", "_law_text", "_law_spot", "_law_found", "_law_e", "_law_k"]
theorem sc__law_right : FnScope ["_law_kind", "_law_text", "_law_spot", "_law_found", "_law_e", "_law_k"] ["_law_kind", "_law_text", "_law_spot"] (defScope s__law_right) := ⟨rfl, rfl, rfl, by decide +kernel, rfl, by decide +kernel, by decide +kernel⟩
abbrev s_law : Stmt := topS 40
abbrev N_law : List Str := ["_law_script", "_law_hand_here", "_law_text", "_law_spot", "_law_kind"]
theorem sc_law : FnScope ["_law_script", "_law_hand_here", "_law_text", "_law_spot", "_law_kind"] ["_law_script"] (defScope s_law) := ⟨rfl, rfl, rfl, by decide +kernel, rfl, by decide +kernel, by decide +kernel⟩
/-- the class of a kind -/
abbrev cl (xs : List Addr) (i : Nat) : Addr := xs.getD i 0
structure Top (P : Program) (K : PySem.W.Frag) (mg : Str → Option Value) where
  xs : List Addr
  Y_BadWeb : ExcDY K mg "BadWeb" (cl xs 0)
  Y_BadFraction : ExcDY K mg "BadFraction" (cl xs 1)
  Y_BadCount : ExcDY K mg "BadCount" (cl xs 2)
  Y_BadGame : ExcDY K mg "BadGame" (cl xs 3)
  Y_BadWay : ExcDY K mg "BadWay" (cl xs 4)
  Y_BadOwner : ExcDY K mg "BadOwner" (cl xs 5)
  Y_BadSetup : ExcDY K mg "BadSetup" (cl xs 6)
  Y_BadSeats : ExcDY K mg "BadSeats" (cl xs 7)
  Y_NotDeaf : ExcDY K mg "NotDeaf" (cl xs 8)
  Y_BadWhat : ExcDY K mg "BadWhat" (cl xs 9)
  Y_BadTubs : ExcDY K mg "BadTubs" (cl xs 10)
  Y_BadRule : ExcDY K mg "BadRule" (cl xs 11)
  Y_BadBill : ExcDY K mg "BadBill" (cl xs 12)
  Y_BadBoards : ExcDY K mg "BadBoards" (cl xs 13)
  Y_BadComers : ExcDY K mg "BadComers" (cl xs 14)
  Y_BadPlace : ExcDY K mg "BadPlace" (cl xs 15)
  Y_BadRules : ExcDY K mg "BadRules" (cl xs 16)
  Y_NothingToUndo : ExcDY K mg "NothingToUndo" (cl xs 17)
  Y_Full : ExcDY K mg "Full" (cl xs 18)
  Y_TooMany : ExcDY K mg "TooMany" (cl xs 19)
  Y_BadCommand : ExcDY K mg "BadCommand" (cl xs 20)
  Y_BadMove : ExcDY K mg "BadMove" (cl xs 21)
  Y_BadOpenings : ExcDY K mg "BadOpenings" (cl xs 22)
  Y_BadView : ExcDY K mg "BadView" (cl xs 23)
  Y_BadWalk : Exf.Plc P K mg "BadWalk" (cl xs 24)
  Y_BadRow : Exf.Plc P K mg "BadRow" (cl xs 25)
  Y_BadAsking : Exf.Plc P K mg "BadAsking" (cl xs 26)
  Y_BadText : Exf.Plc P K mg "BadText" (cl xs 27)
  Y_ParlourError : ExcDY K mg "ParlourError" (cl xs 28)
  m_ParlourError : mg "ParlourError" = some (.ref (cl xs 28))
  b_ValueError : mg "ValueError" = none
  kt : ∀ i < 29, ∀ j < 28, PySem.W.kitOne K (.ref (cl xs i)) (.ref (cl xs j)) = some (j == i)
  kv : ∀ i < 29, PySem.W.kitOne K (.ref (cl xs i)) (.type "ValueError") = some true
  ec : ∀ i < 29, ExcC K (cl xs i)
  xf : ∀ i < 29, XfC K (cl xs i)
  ex : ∀ i < 29, PySem.W.exmOne K (.ref (cl xs i)) (.ref (cl xs 28)) = some true
  np : ∀ i, 24 ≤ i → i < 28 → PySem.W.findIn K (.ref (cl xs i)) Exf.nPlc = some none
  f__law_hand : Addr
  d__law_hand : FuncData
  D__law_hand : DefAt K mg "_law_hand" s__law_hand ["_law_script"] [] f__law_hand d__law_hand
  f__law_draw : Addr
  d__law_draw : FuncData
  D__law_draw : DefAt K mg "_law_draw" s__law_draw ["_law_hand_here", "_law_size"] [] f__law_draw d__law_draw
  f__law_raise : Addr
  d__law_raise : FuncData
  D__law_raise : DefAt K mg "_law_raise" s__law_raise ["_law_kind", "_law_text"] [] f__law_raise d__law_raise
  f__law_raise_more : Addr
  d__law_raise_more : FuncData
  D__law_raise_more : DefAt K mg "_law_raise_more" s__law_raise_more ["_law_kind", "_law_text"] [] f__law_raise_more d__law_raise_more
  f__law_raise_last : Addr
  d__law_raise_last : FuncData
  D__law_raise_last : DefAt K mg "_law_raise_last" s__law_raise_last ["_law_kind", "_law_text", "_law_spot"] [] f__law_raise_last d__law_raise_last
  f__law_marks : Addr
  d__law_marks : FuncData
  D__law_marks : DefAt K mg "_law_marks" s__law_marks ["_law_e"] [] f__law_marks d__law_marks
  f__law_more_marks : Addr
  d__law_more_marks : FuncData
  D__law_more_marks : DefAt K mg "_law_more_marks" s__law_more_marks ["_law_e"] [] f__law_more_marks d__law_more_marks
  f__law_last_marks : Addr
  d__law_last_marks : FuncData
  D__law_last_marks : DefAt K mg "_law_last_marks" s__law_last_marks ["_law_e"] [] f__law_last_marks d__law_last_marks
  f__law_right : Addr
  d__law_right : FuncData
  D__law_right : DefAt K mg "_law_right" s__law_right ["_law_kind", "_law_text", "_law_spot"] [] f__law_right d__law_right
  b_len : mg "len" = none
  b_isinstance : mg "isinstance" = none
  b_abs : mg "abs" = none
  b_all : mg "all" = none
  b_int : mg "int" = none
  b_list : mg "list" = none
  b_range : mg "range" = none
section
variable {P : Program} {K : PySem.W.Frag} {mg : Str → Option Value}
abbrev Top.x_BadWeb (T : Top P K mg) : Addr := cl T.xs 0
abbrev Top.x_BadFraction (T : Top P K mg) : Addr := cl T.xs 1
abbrev Top.x_BadCount (T : Top P K mg) : Addr := cl T.xs 2
abbrev Top.x_BadGame (T : Top P K mg) : Addr := cl T.xs 3
abbrev Top.x_BadWay (T : Top P K mg) : Addr := cl T.xs 4
abbrev Top.x_BadOwner (T : Top P K mg) : Addr := cl T.xs 5
abbrev Top.x_BadSetup (T : Top P K mg) : Addr := cl T.xs 6
abbrev Top.x_BadSeats (T : Top P K mg) : Addr := cl T.xs 7
abbrev Top.x_NotDeaf (T : Top P K mg) : Addr := cl T.xs 8
abbrev Top.x_BadWhat (T : Top P K mg) : Addr := cl T.xs 9
abbrev Top.x_BadTubs (T : Top P K mg) : Addr := cl T.xs 10
abbrev Top.x_BadRule (T : Top P K mg) : Addr := cl T.xs 11
abbrev Top.x_BadBill (T : Top P K mg) : Addr := cl T.xs 12
abbrev Top.x_BadBoards (T : Top P K mg) : Addr := cl T.xs 13
abbrev Top.x_BadComers (T : Top P K mg) : Addr := cl T.xs 14
abbrev Top.x_BadPlace (T : Top P K mg) : Addr := cl T.xs 15
abbrev Top.x_BadRules (T : Top P K mg) : Addr := cl T.xs 16
abbrev Top.x_NothingToUndo (T : Top P K mg) : Addr := cl T.xs 17
abbrev Top.x_Full (T : Top P K mg) : Addr := cl T.xs 18
abbrev Top.x_TooMany (T : Top P K mg) : Addr := cl T.xs 19
abbrev Top.x_BadCommand (T : Top P K mg) : Addr := cl T.xs 20
abbrev Top.x_BadMove (T : Top P K mg) : Addr := cl T.xs 21
abbrev Top.x_BadOpenings (T : Top P K mg) : Addr := cl T.xs 22
abbrev Top.x_BadView (T : Top P K mg) : Addr := cl T.xs 23
abbrev Top.x_BadWalk (T : Top P K mg) : Addr := cl T.xs 24
abbrev Top.x_BadRow (T : Top P K mg) : Addr := cl T.xs 25
abbrev Top.x_BadAsking (T : Top P K mg) : Addr := cl T.xs 26
abbrev Top.x_BadText (T : Top P K mg) : Addr := cl T.xs 27
abbrev Top.x_ParlourError (T : Top P K mg) : Addr := cl T.xs 28
end
end K00

set_option Elab.async false
set_option linter.all false
set_option maxRecDepth 100000
set_option maxHeartbeats 1000000
namespace K00
open PySem PySem.Spec PyProof.Rows L2 Dat
local macro_rules | `(tactic| trivial) => `(tactic| (first
  | (with_reducible refine s_seq ?_)
  | (with_reducible refine s_asg ?_)
  | (with_reducible refine s_ret ?_)
  | (with_reducible refine s_drop ?_)
  | (with_reducible refine s_next ?_)
  | (with_reducible refine s_retN ?_)
  | (with_reducible refine s_brk ?_)
  | (with_reducible refine s_cont ?_)
  | (with_reducible refine s_if ?_)
  | (with_reducible refine e_int ?_)
  | (with_reducible refine e_str ?_)
  | (with_reducible refine e_bl ?_)
  | (with_reducible refine e_non ?_)
  | (with_reducible refine e_ty ?_)
  | (with_reducible refine e_tupD ?_)
  | (with_reducible refine e_lstD ?_)
  | (with_reducible refine e_op ?_)
  | (with_reducible refine e_un ?_)
  | (with_reducible refine e_then ?_)
  | (with_reducible refine e_cb ?_)
  | (with_reducible refine e_call ?_)
  | (with_reducible refine e_if ?_)
  | (with_reducible refine e_chain ?_)
  | (with_reducible refine e_andV ?_)
  | (with_reducible refine e_orV ?_)
  | (with_reducible refine e_notV ?_)
  | (with_reducible refine a_cons ?_)
  | (with_reducible refine a_nil ?_)
  | (with_reducible refine t_test ?_)
  | (with_reducible refine t_B ?_)
  | (with_reducible refine t_not ?_)
  | (with_reducible refine t_and ?_)
  | (with_reducible refine t_or ?_)
  | (with_reducible refine r_I0i ?_)
  | (with_reducible refine r_I0b ?_)
  | (with_reducible refine r_neg ?_)
  | (with_reducible refine r_isN ?_)
  | (with_reducible refine r_notN ?_)
  | (with_reducible refine c_lenT ?_)
  | (with_reducible refine c_lenL ?_)
  | (with_reducible refine c_intI ?_)
  | (with_reducible refine c_intB ?_)
  | (with_reducible refine c_max2 ?_)
  | (with_reducible refine c_min2 ?_)
  | (with_reducible refine c_abs ?_)
  | (with_reducible refine r_tupL ?_)
  | (with_reducible refine r_tupT ?_)
  | (with_reducible refine c_allM ?_)
  | ((with_reducible apply e_var); (exact rfl))
  | ((with_reducible refine r_eq ?_ ?_); (exact rfl))
  | ((with_reducible refine r_ne ?_ ?_); (exact rfl))
  | (with_reducible refine c_isi kit_int ?_)
  | (with_reducible refine c_isi kit_bool ?_)
  | (with_reducible refine c_isi kit_tuple ?_)
  | (with_reducible refine c_isi kit_list ?_)
  | (with_reducible refine c_isi kit_str ?_)
  | ((with_reducible apply r_ixT); (exact rfl))
  | ((with_reducible apply dats_pack); (iterate 40 (first | exact Dats.nil | apply Dats.cons | skip)); (exact rfl))
  | (with_reducible refine s_asgG ?_) | (with_reducible refine g_name ?_) | ((with_reducible refine g_tup ?_ ?_); (exact rfl)) | (refine gs_nil ?_) | (refine gs_cons ?_) | (with_reducible refine ⟨rfl, ?_⟩)
  | (refine ⟨_, rfl, ?_⟩) | (refine ⟨_, _, rfl, ?_⟩) | (refine ⟨_, _, _, rfl, ?_⟩) | (with_reducible refine ⟨fun _ => ?_, fun _ => ?_⟩) | fail))
section
variable {P : Program} {w : World} {K : PySem.W.Frag} [Tb K] {mg : Str → Option Value} {base : Heap}
/-! ### the hand -/
theorem c_listS {Ω : AH} {ns : List Int} {P : Av → AH → Prop} (h : P (.dat (.list (ns.map PyData.int))) Ω) : RCW K (rListQ K) [.scr ns] Ω P := fun F H xs Q k hx q => by
  cases hx with
  | cons h1 hx =>
    cases hx
    cases h1 with
    | scr hs =>
      refine ⟨_, _, rfl, .inl (Fz_le.seq hs), fun l nl => ?_⟩
      exact q _ _ _ _ h (k.same (same_new nl)) (.dat (lst_new k nl DqAll.ofInts))
abbrev handL (ns : List Int) (i : Nat) (a s c : Int) : List Av := [.dat (.list (ns.map PyData.int)), .dat (.int ((i : Nat) : Int)), .dat (.int a), .dat (.int s), .dat (.int c)]
abbrev spHand : ASp := fun as Ω P => ∃ ns : List Int, as = [.scr ns] ∧ ∀ p, Ω p = none → P (.ptr p) (put Ω p (handL ns 0 0 0 0))
theorem ok_hand (T : Top P K mg) : FnOk P w K mg base CX0 1 T.f__law_hand T.d__law_hand ["_law_script"] (spA K spHand) := by
  refine fnA_ok T.D__law_hand.F sc__law_hand (fun as Ω P ⟨ns, e, _⟩ => by subst e; rfl) (fun cdv A outer s H E hr => ?_)
  refine ⟨_, (pss_one (ps_ret (pe_lst (pa_cons (pe_callTy (Dat.listQ (K := K) rfl) rfl T.b_list bt_list (pa_cons (pv 0) pa_nil)) (pa_cons pe_int (pa_cons pe_int (pa_cons pe_int (pa_cons pe_int pa_nil)))))))), ?_⟩
  rintro as Ω P ⟨ns, rfl, h⟩
  exact s_ret (e_lstP (a_cons (e_cb (a_cons (e_var rfl (a_nil (c_listS (a_cons (e_int (a_cons (e_int (a_cons (e_int (a_cons (e_int (a_nil ⟨by simp, fun p np => h p np⟩))))))))))))))))
abbrev spDrawM (M : Int) : ASp := fun as Ω P => ∃ (Ω0 : AH) (p : Addr) (m : Int) (ns : List Int) (i : Nat) (a s c : Int), as = [.ptr p, .dat (.int m)] ∧ Ω = put Ω0 p (handL ns i a s c) ∧ (0 ≤ s ∧ s < 2 ^ 32) ∧ 1 ≤ m ∧ m ≤ M ∧
  ∀ v i' a' s' c', 0 ≤ s' ∧ s' < 2 ^ 32 → 0 ≤ v → v < m → P (.dat (.int v)) (put Ω0 p (handL ns i' a' s' c'))
theorem ok_never {f : Addr} {fd : FuncData} {ps : List Str} {k : Nat} : FnOk P w K mg base CX0 k f fd ps (spA K fun _ _ _ => False) :=
  ⟨fun _ _ _ _ ⟨_, _, _, _, _, _, h, _⟩ => h.elim, fun _ _ _ _ _ _ _ _ _ _ _ _ _ ⟨_, _, _, _, _, _, h, _⟩ => h.elim⟩
theorem draw_step (T : Top P K mg) {k : Nat} {M : Int} {sp : ASp} (G__law_draw : FnOk P w K mg base CX0 k T.f__law_draw T.d__law_draw ["_law_hand_here", "_law_size"] (spA K sp)) (hM : M ≤ 3000000)
    (hsp : ∀ (Ω0 : AH) (p : Addr) (ns : List Int) (i : Nat) (a s c : Int) (P : Av → AH → Prop) (m : Int), 1000000 < m → m ≤ M → (0 ≤ s ∧ s < 2 ^ 32) → (∀ v i' a' s' c', 0 ≤ s' ∧ s' < 2 ^ 32 → P (.dat (.int v)) (put Ω0 p (handL ns i' a' s' c'))) → sp [.ptr p, .dat (.int (m / 10 ^ (6 : Int).toNat + 1))] (put Ω0 p (handL ns i a s c)) P) :
    FnOk P w K mg base CX0 (k + 1) T.f__law_draw T.d__law_draw ["_law_hand_here", "_law_size"] (spA K (spDrawM M)) := by
  refine fnA_ok T.D__law_draw.F sc__law_draw (fun as Ω P ⟨Ω0, p, m, ns, i, a, s, c, e, _⟩ => by subst e; rfl) (fun cdv A outer s H E hr => ?_)
  refine ⟨_, (pss_cons (ps_if (pt_cmpR op_gt (pe_ix (Dat.ixL (K := K) rfl) (pv 0) pe_int (fun _ _ => rfl)) pe_int (nomark _))
      (pss_cons (ps_set (i := 2) sc__law_draw.nd rfl (.inl rfl) (pe_op op_mod (pe_callTy Dat.cl_int rfl T.b_int bt_int (pa_cons (pe_ix (Dat.ixL (K := K) rfl) (pv 0) pe_int (fun _ _ => rfl)) pa_nil)) (pv 1)))
      (pss_cons (ps_asg (pe_op op_fdiv (pe_ix (Dat.ixL (K := K) rfl) (pv 0) pe_int (fun _ _ => rfl)) (pv 1)) (pg_sub (pv 0) pe_int set_list))
      (pss_one (ps_ret (pv 2)))))
      pss_nil)
    (pss_cons (ps_set (i := 3) sc__law_draw.nd rfl (.inl rfl) pe_int)
    (pss_cons (ps_if (pt_cmpR op_lt (pe_ix (Dat.ixL (K := K) rfl) (pv 0) pe_int (fun _ _ => rfl)) (pe_callB (Dat.lenQ (K := K) rfl) rfl T.b_len bt_len (pa_cons (pe_ix (Dat.ixL (K := K) rfl) (pv 0) pe_int (fun _ _ => rfl)) pa_nil)) (nomark _))
      (pss_cons (ps_set (i := 3) sc__law_draw.nd rfl (.inl rfl) (pe_ix (Dat.ixL (K := K) rfl) (pe_ix (Dat.ixL (K := K) rfl) (pv 0) pe_int (fun _ _ => rfl)) (pe_ix (Dat.ixL (K := K) rfl) (pv 0) pe_int (fun _ _ => rfl)) (fun _ _ => rfl)))
      (pss_one (ps_asg (pe_op op_add (pe_ix (Dat.ixL (K := K) rfl) (pv 0) pe_int (fun _ _ => rfl)) pe_int) (pg_sub (pv 0) pe_int set_list))))
      pss_nil)
    (pss_cons (ps_if (pt_cmpR op_ge (pe_callB Dat.cl_abs rfl T.b_abs bt_abs (pa_cons (pv 3) pa_nil)) (pe_op op_pow pe_int pe_int) (nomark _))
      (pss_cons (ps_asg (pe_op op_fdiv (pe_callB Dat.cl_abs rfl T.b_abs bt_abs (pa_cons (pv 3) pa_nil)) (pv 1)) (pg_sub (pv 0) pe_int set_list))
      (pss_one (ps_ret (pe_op op_mod (pe_callTy Dat.cl_int rfl T.b_int bt_int (pa_cons (pe_callB Dat.cl_abs rfl T.b_abs bt_abs (pa_cons (pv 3) pa_nil)) pa_nil)) (pv 1)))))
      pss_nil)
    (pss_cons (ps_asg (pe_op op_add (pe_ix (Dat.ixL (K := K) rfl) (pv 0) pe_int (fun _ _ => rfl)) pe_int) (pg_sub (pv 0) pe_int set_list))
    (pss_cons (ps_set (i := 4) sc__law_draw.nd rfl (.inl rfl) (pe_op op_mod (pe_callTy Dat.cl_int rfl T.b_int bt_int (pa_cons (pe_op op_add (pe_op op_add (pe_op op_add (pe_op op_mul (pe_ix (Dat.ixL (K := K) rfl) (pv 0) pe_int (fun _ _ => rfl)) pe_int) (pe_op op_mul (pv 3) pe_int)) (pe_op op_mul (pe_ix (Dat.ixL (K := K) rfl) (pv 0) pe_int (fun _ _ => rfl)) pe_int)) pe_int) pa_nil)) pe_int))
    (pss_cons (ps_set (i := 4) sc__law_draw.nd rfl (.inl rfl) (pe_op op_mod (pe_callTy Dat.cl_int rfl T.b_int bt_int (pa_cons (pe_op op_add (pe_op op_mul (pe_op op_mod (pe_op op_mul (pv 4) (pv 4)) pe_int) (pv 4)) (pv 3)) pa_nil)) pe_int))
    (pss_cons (ps_asg (pv 4) (pg_sub (pv 0) pe_int set_list))
    (pss_cons (ps_if (pt_cmpR op_gt (pv 1) (pe_op op_pow pe_int pe_int) (nomark _))
      (pss_one (ps_ret (pe_op op_mod (pe_callTy Dat.cl_int rfl T.b_int bt_int (pa_cons (pe_op op_add (pe_op op_mod (pe_op op_fdiv (pv 4) pe_int) (pe_op op_pow pe_int pe_int)) (pe_op op_mul (pe_op op_pow pe_int pe_int) (pe_call G__law_draw (hr.mono (by omega)) rfl T.D__law_draw.g T.D__law_draw.F.kp T.D__law_draw.b .nil pass0 (pa_cons (pv 0) (pa_cons (pe_op op_add (pe_op op_fdiv (pv 1) (pe_op op_pow pe_int pe_int)) pe_int) pa_nil))))) pa_nil)) (pv 1))))
      pss_nil)
    (pss_one (ps_ret (pe_op op_mod (pe_op op_fdiv (pv 4) pe_int) (pv 1))))))))))))), ?_⟩
  rintro as Ω P ⟨Ω0, p, m, ns, i, a, s, c, rfl, rfl, hs, m1, m2, h⟩
  have at1 : ∀ (j : Nat) (x y z : Int), atI (handL ns j x y z) 1 = some (.dat (.int ((j : Nat) : Int))) := fun _ _ _ _ => rfl
  have at2 : ∀ (j : Nat) (x y z : Int), atI (handL ns j x y z) 2 = some (.dat (.int x)) := fun _ _ _ _ => rfl
  have at3 : ∀ (j : Nat) (x y z : Int), atI (handL ns j x y z) 3 = some (.dat (.int y)) := fun _ _ _ _ => rfl
  have at4 : ∀ (j : Nat) (x y z : Int), atI (handL ns j x y z) 4 = some (.dat (.int z)) := fun _ _ _ _ => rfl
  have at0 : ∀ (j : Nat) (x y z : Int), atI (handL ns j x y z) 0 = some (.dat (.list (ns.map PyData.int))) := fun _ _ _ _ => rfl
  refine s_seq (s_if (t_test (e_op (e_op (e_var rfl (e_int (r_ixP put_same (at2 i a s c) (e_int (r_I0b ⟨_, rfl, fun _ => ?_, fun _ => s_next ?_⟩)))))))))
  · refine s_seq (s_asg (e_op (e_cb (a_cons (e_op (e_var rfl (e_int (r_ixP put_same (at2 i a s c) (a_nil (c_intI (e_var rfl (r_Ii (by show (0 : Int) < m; omega) ?_))))))))))))
    refine s_seq (s_setL (e_op (e_op (e_var rfl (e_int (r_ixP put_same (at2 i a s c) (e_var rfl (r_Ii (by exact ⟨by omega, by omega⟩) (e_var rfl ⟨p, rfl, e_int ⟨2, _, 2, rfl, put_same, rfl, ?_⟩⟩)))))))))
    refine s_ret (e_var rfl ?_)
    rw [put_put]
    exact h _ _ _ _ _ hs (Int.emod_nonneg _ (by omega)) (Int.emod_lt_of_pos _ (by omega))
  refine s_seq (s_asg (e_int ?_))
  refine s_seqM (fun Γ' Ω' => ∃ (cell : Int) (j : Nat), Γ' = [some (.ptr p), some (.dat (.int m)), none, some (.dat (.int cell)), none] ∧ Ω' = put Ω0 p (handL ns j a s c)) ?_ ?_
  · refine s_if (t_test (e_op (e_op (e_var rfl (e_int (r_ixP put_same (at1 i a s c) (e_cb (a_cons (e_op (e_var rfl (e_int (r_ixP put_same (at0 i a s c) (a_nil (c_lenL (r_I0b ⟨_, rfl, fun hb => ?_, fun _ => s_next ⟨_, i, rfl, rfl⟩⟩)))))))))))))))
    have hi : i < ns.length := by
      have := of_decide_eq_true hb
      rw [List.length_map] at this
      omega
    refine s_seq (s_asg (e_op (e_op (e_var rfl (e_int (r_ixP put_same (at0 i a s c) (e_op (e_var rfl (e_int (r_ixP put_same (at1 i a s c) (r_ixL (d := .int ns[i]) (atI_nat' (by rw [List.getElem?_map, List.getElem?_eq_getElem hi]; rfl)) ?_)))))))))))
    refine s_setL (e_op (e_op (e_var rfl (e_int (r_ixP put_same (at1 i a s c) (e_int (r_I0i (e_var rfl ⟨p, rfl, e_int ⟨1, _, 1, rfl, put_same, rfl, ?_⟩⟩))))))))
    rw [put_put]
    exact ⟨ns[i], i + 1, rfl, rfl⟩
  rintro Γ' Ω' ⟨cell, j, rfl, rfl⟩
  refine s_seq (s_if (t_test (e_op (e_cb (a_cons (e_var rfl (a_nil (c_abs (e_op (e_int (e_int (r_Ii (by exact ⟨by decide, by decide, by decide⟩) (r_I0b ⟨_, rfl, fun _ => ?_, fun hb => s_next ?_⟩)))))))))))))
  · refine s_seq (s_setL (e_op (e_cb (a_cons (e_var rfl (a_nil (c_abs (e_var rfl (r_Ii (by exact ⟨by omega, by omega⟩) (e_var rfl ⟨p, rfl, e_int ⟨2, _, 2, rfl, put_same, rfl, ?_⟩⟩))))))))))
    refine s_ret (e_op (e_cb (a_cons (e_cb (a_cons (e_var rfl (a_nil (c_abs (a_nil (c_intI (e_var rfl (r_Ii (by show (0 : Int) < m; omega) ?_))))))))))))
    rw [put_put]
    exact h _ _ _ _ _ hs (Int.emod_nonneg _ (by omega)) (Int.emod_lt_of_pos _ (by omega))
  have hc : -(10 ^ 18) < cell ∧ cell < 10 ^ 18 := by
    have := of_decide_eq_false hb
    have e : (10 : Int) ^ (18 : Int).toNat = 10 ^ 18 := rfl
    rw [e] at this
    split at this <;> omega
  refine s_seq (s_setL (e_op (e_op (e_var rfl (e_int (r_ixP put_same (at4 j a s c) (e_int (r_I0i (e_var rfl ⟨p, rfl, e_int ⟨4, _, 4, rfl, put_same, rfl, ?_⟩⟩)))))))))
  show SW K _ _ (put (put Ω0 p (handL ns j a s c)) p (handL ns j a s (c + 1))) _
  rw [put_put]
  refine s_seqM (fun Γ' Ω' => ∃ x : Int, 0 ≤ x ∧ x < 2147483563 ∧ Γ' = [some (.ptr p), some (.dat (.int m)), none, some (.dat (.int cell)), some (.dat (.int x))] ∧ Ω' = put Ω0 p (handL ns j a s (c + 1))) ?_ ?_
  · refine s_asg (e_op (e_cb (a_cons (e_op (e_op (e_op (e_op (e_op (e_var rfl (e_int (r_ixP put_same (at3 j a s (c + 1)) (e_int (r_Ii (by exact .inr ⟨by decide, by decide⟩) (e_op (e_var rfl (e_int (r_Ii (by exact .inr ⟨by decide, by decide⟩) (r_I0i (e_op (e_op (e_var rfl (e_int (r_ixP put_same (at4 j a s (c + 1)) (e_int (r_Ii (by exact .inr ⟨by decide, by decide⟩) (r_I0i (e_int (r_I0i ?_))))))))))))))))))))))))))))
    exact a_nil (c_intI (e_int (r_Ii (by show (0 : Int) < 2147483563; decide) ⟨_, Int.emod_nonneg _ (by decide), Int.emod_lt_of_pos _ (by decide), rfl, rfl⟩)))
  rintro Γ' Ω' ⟨x, x0, x1, rfl, rfl⟩
  refine s_seqM (fun Γ' Ω' => ∃ x : Int, 0 ≤ x ∧ x < 2147483399 ∧ Γ' = [some (.ptr p), some (.dat (.int m)), none, some (.dat (.int cell)), some (.dat (.int x))] ∧ Ω' = put Ω0 p (handL ns j a s (c + 1))) ?_ ?_
  · refine s_asg (e_op (e_cb (a_cons (e_op (e_op (e_op (e_op (e_var rfl (e_var rfl (r_Ii (by exact .inl ⟨by omega, by omega⟩) (e_int (r_Ii (by show (0 : Int) < 2147483399; decide) (e_var rfl (r_Ii (by exact .inr ⟨by omega, by omega⟩) (e_var rfl (r_I0i ?_))))))))))))))))
    exact a_nil (c_intI (e_int (r_Ii (by show (0 : Int) < 2147483399; decide) ⟨_, Int.emod_nonneg _ (by decide), Int.emod_lt_of_pos _ (by decide), rfl, rfl⟩)))
  rintro Γ' Ω' ⟨x, x0, x1, rfl, rfl⟩
  refine s_seq (s_setL (e_var rfl (e_var rfl ⟨p, rfl, e_int ⟨3, _, 3, rfl, put_same, rfl, ?_⟩⟩)))
  show SW K _ _ (put (put Ω0 p (handL ns j a s (c + 1))) p (handL ns j a x (c + 1))) _
  rw [put_put]
  refine s_seq (s_if (t_test (e_op (e_var rfl (e_op (e_int (e_int (r_Ii (by exact ⟨by decide, by decide, by decide⟩) (r_I0b ⟨_, rfl, fun hb => ?_, fun _ => s_next ?_⟩)))))))))
  · have hm : 1000000 < m := by
      have := of_decide_eq_true hb
      have e : (10 : Int) ^ (6 : Int).toNat = 1000000 := rfl
      rw [e] at this
      omega
    refine s_ret (e_op (e_cb (a_cons (e_op (e_op (e_op (e_var rfl (e_int (r_Ii (by exact ⟨by decide, by decide⟩) (e_op (e_int (e_int (r_Ii (by exact ⟨by decide, by decide, by decide⟩) (r_Ii (by show (0 : Int) < 10 ^ (6 : Int).toNat; decide) ?_))))))))))))))
    refine e_op (e_op (e_int (e_int (r_Ii (by exact ⟨by decide, by decide, by decide⟩) (e_call (a_cons (e_var rfl (a_cons (e_op (e_op (e_var rfl (e_op (e_int (e_int (r_Ii (by exact ⟨by decide, by decide, by decide⟩) (r_Ii (by exact ⟨by decide, by decide⟩) (e_int (r_I0i (a_nil ?_)))))))))))))))))))
    refine hsp Ω0 p ns j a x (c + 1) _ m hm m2 ⟨x0, by omega⟩ fun v i' a' s' c' hs' => ?_
    refine r_Ii (by exact .inl ⟨by decide, by decide⟩) (r_I0i (a_nil (c_intI (e_var rfl (r_Ii (by show (0 : Int) < m; omega) ?_)))))
    exact h _ _ _ _ _ hs' (Int.emod_nonneg _ (by omega)) (Int.emod_lt_of_pos _ (by omega))
  · refine s_ret (e_op (e_op (e_var rfl (e_int (r_Ii (by exact ⟨by decide, by decide⟩) (e_var rfl (r_Ii (by show (0 : Int) < m; omega) ?_)))))))
    exact h _ _ _ _ _ ⟨x0, by omega⟩ (Int.emod_nonneg _ (by omega)) (Int.emod_lt_of_pos _ (by omega))
theorem ok_draw1 (T : Top P K mg) : FnOk P w K mg base CX0 1 T.f__law_draw T.d__law_draw ["_law_hand_here", "_law_size"] (spA K (spDrawM 1000000)) :=
  draw_step T (k := 0) ok_never (by decide) fun Ω0 p ns i a s c P m h1 h2 => by omega
abbrev spDraw : ASp := spDrawM 2000001
theorem ok_draw (T : Top P K mg) : FnOk P w K mg base CX0 2 T.f__law_draw T.d__law_draw ["_law_hand_here", "_law_size"] (spA K spDraw) :=
  draw_step T (k := 1) (ok_draw1 T) (by decide) fun Ω0 p ns i a s c P m h1 h2 hs hp => by
    have e : (10 : Int) ^ (6 : Int).toNat = 1000000 := rfl
    rw [e]
    exact ⟨Ω0, p, _, ns, i, a, s, c, rfl, rfl, hs, by omega, by omega, fun v i' a' s' c' hs' _ _ => hp v i' a' s' c' hs'⟩
end
end K00

set_option Elab.async false
set_option linter.all false
set_option maxRecDepth 100000
set_option maxHeartbeats 2000000
namespace K00
open PySem PySem.Spec PyProof.Rows L2 Dat Exh
local macro_rules | `(tactic| trivial) => `(tactic| (first
  | (with_reducible refine s_seq ?_)
  | (with_reducible refine s_asg ?_)
  | (with_reducible refine s_ret ?_)
  | (with_reducible refine s_drop ?_)
  | (with_reducible refine s_next ?_)
  | (with_reducible refine s_retN ?_)
  | (with_reducible refine s_brk ?_)
  | (with_reducible refine s_cont ?_)
  | (with_reducible refine s_if ?_)
  | (with_reducible refine e_int ?_)
  | (with_reducible refine e_str ?_)
  | (with_reducible refine e_bl ?_)
  | (with_reducible refine e_non ?_)
  | (with_reducible refine e_ty ?_)
  | (with_reducible refine e_tupD ?_)
  | (with_reducible refine e_lstD ?_)
  | (with_reducible refine e_op ?_)
  | (with_reducible refine e_un ?_)
  | (with_reducible refine e_then ?_)
  | (with_reducible refine e_cb ?_)
  | (with_reducible refine e_call ?_)
  | (with_reducible refine e_if ?_)
  | (with_reducible refine e_chain ?_)
  | (with_reducible refine e_andV ?_)
  | (with_reducible refine e_orV ?_)
  | (with_reducible refine e_notV ?_)
  | (with_reducible refine a_cons ?_)
  | (with_reducible refine a_nil ?_)
  | (with_reducible refine t_test ?_)
  | (with_reducible refine t_B ?_)
  | (with_reducible refine t_not ?_)
  | (with_reducible refine t_and ?_)
  | (with_reducible refine t_or ?_)
  | (with_reducible refine r_I0i ?_)
  | (with_reducible refine r_I0b ?_)
  | (with_reducible refine r_neg ?_)
  | (with_reducible refine r_isN ?_)
  | (with_reducible refine r_notN ?_)
  | (with_reducible refine c_lenT ?_)
  | (with_reducible refine c_lenL ?_)
  | (with_reducible refine c_intI ?_)
  | (with_reducible refine c_intB ?_)
  | (with_reducible refine c_max2 ?_)
  | (with_reducible refine c_min2 ?_)
  | (with_reducible refine c_abs ?_)
  | (with_reducible refine r_tupL ?_)
  | (with_reducible refine r_tupT ?_)
  | (with_reducible refine c_allM ?_)
  | ((with_reducible apply e_var); (exact rfl))
  | ((with_reducible refine r_eq ?_ ?_); (exact rfl))
  | ((with_reducible refine r_ne ?_ ?_); (exact rfl))
  | (with_reducible refine c_isi kit_int ?_)
  | (with_reducible refine c_isi kit_bool ?_)
  | (with_reducible refine c_isi kit_tuple ?_)
  | (with_reducible refine c_isi kit_list ?_)
  | (with_reducible refine c_isi kit_str ?_)
  | ((with_reducible apply r_ixT); (exact rfl))
  | ((with_reducible apply dats_pack); (iterate 40 (first | exact Dats.nil | apply Dats.cons | skip)); (exact rfl))
  | (with_reducible refine s_asgG ?_) | (with_reducible refine g_name ?_) | ((with_reducible refine g_tup ?_ ?_); (exact rfl)) | (refine gs_nil ?_) | (refine gs_cons ?_) | (with_reducible refine ⟨rfl, ?_⟩)
  | (refine ⟨_, rfl, ?_⟩) | (refine ⟨_, _, rfl, ?_⟩) | (refine ⟨_, _, _, rfl, ?_⟩) | (with_reducible refine ⟨fun _ => ?_, fun _ => ?_⟩) | fail))
section
variable {P : Program} {w : World} {K : PySem.W.Frag} [Tb K] {mg : Str → Option Value} {base : Heap}
/-! ### what is raised -/
theorem eqI_t {k j : Nat} (e : eqD (.int ((k : Nat) : Int)) (.int ((j : Nat) : Int)) = true) : k = j := by
  have : (((k : Nat) : Int) == ((j : Nat) : Int)) = true := e
  have := beq_iff_eq.mp this
  omega
theorem eqI_f {k j : Nat} (e : eqD (.int ((k : Nat) : Int)) (.int ((j : Nat) : Int)) = false) : k ≠ j := fun z => by
  subst z
  have : (((k : Nat) : Int) == ((k : Nat) : Int)) = false := e
  rw [beq_self_eq_true] at this
  cases this
abbrev spRaise (T : Top P K mg) : ASpY := fun as Ω Q PX => ∃ (k : Nat) (t : Str), as = [.dat (.int ((k : Nat) : Int)), .dat (.str t)] ∧ 0 ≤ k ∧ (k < 13 → PX (.ref (cl T.xs k)) none Ω) ∧ (13 ≤ k → Q (.dat .none) Ω)
theorem ok_law_raise (T : Top P K mg) : FnOk P w K mg base (L2.CX P w) 1 T.f__law_raise T.d__law_raise ["_law_kind", "_law_text"] (spY K (spRaise T)) := by
  refine fnY_ok T.D__law_raise.F sc__law_raise (fun as Ω P PX ⟨k, t, e, _⟩ => by subst e; rfl) (fun cdv A outer s H E hr tk => ?_)
  refine ⟨_, (pss_cons (ps_if (pt_cmpR op_eq (pv 0) pe_int (nomark _))
      (pss_one (ps_raiseY1 T.Y_BadWeb rfl rfl rfl tk rfl (pv 1)))
      pss_nil)
    (pss_cons (ps_if (pt_cmpR op_eq (pv 0) pe_int (nomark _))
      (pss_one (ps_raiseY1 T.Y_BadFraction rfl rfl rfl tk rfl (pv 1)))
      pss_nil)
    (pss_cons (ps_if (pt_cmpR op_eq (pv 0) pe_int (nomark _))
      (pss_one (ps_raiseY1 T.Y_BadCount rfl rfl rfl tk rfl (pv 1)))
      pss_nil)
    (pss_cons (ps_if (pt_cmpR op_eq (pv 0) pe_int (nomark _))
      (pss_one (ps_raiseY1 T.Y_BadGame rfl rfl rfl tk rfl (pv 1)))
      pss_nil)
    (pss_cons (ps_if (pt_cmpR op_eq (pv 0) pe_int (nomark _))
      (pss_one (ps_raiseY1 T.Y_BadWay rfl rfl rfl tk rfl (pv 1)))
      pss_nil)
    (pss_cons (ps_if (pt_cmpR op_eq (pv 0) pe_int (nomark _))
      (pss_one (ps_raiseY1 T.Y_BadOwner rfl rfl rfl tk rfl (pv 1)))
      pss_nil)
    (pss_cons (ps_if (pt_cmpR op_eq (pv 0) pe_int (nomark _))
      (pss_one (ps_raiseY1 T.Y_BadSetup rfl rfl rfl tk rfl (pv 1)))
      pss_nil)
    (pss_cons (ps_if (pt_cmpR op_eq (pv 0) pe_int (nomark _))
      (pss_one (ps_raiseY1 T.Y_BadSeats rfl rfl rfl tk rfl (pv 1)))
      pss_nil)
    (pss_cons (ps_if (pt_cmpR op_eq (pv 0) pe_int (nomark _))
      (pss_one (ps_raiseY1 T.Y_NotDeaf rfl rfl rfl tk rfl (pv 1)))
      pss_nil)
    (pss_cons (ps_if (pt_cmpR op_eq (pv 0) pe_int (nomark _))
      (pss_one (ps_raiseY1 T.Y_BadWhat rfl rfl rfl tk rfl (pv 1)))
      pss_nil)
    (pss_cons (ps_if (pt_cmpR op_eq (pv 0) pe_int (nomark _))
      (pss_one (ps_raiseY1 T.Y_BadTubs rfl rfl rfl tk rfl (pv 1)))
      pss_nil)
    (pss_cons (ps_if (pt_cmpR op_eq (pv 0) pe_int (nomark _))
      (pss_one (ps_raiseY1 T.Y_BadRule rfl rfl rfl tk rfl (pv 1)))
      pss_nil)
    (pss_one (ps_if (pt_cmpR op_eq (pv 0) pe_int (nomark _))
      (pss_one (ps_raiseY1 T.Y_BadBill rfl rfl rfl tk rfl (pv 1)))
      pss_nil)))))))))))))), ?_⟩
  rintro as Ω Q PX ⟨k, t, rfl, h0, h1, h2⟩
  refine sy_seq (sy_if (t_test (e_op (e_var rfl (e_int (r_eq rfl ⟨_, rfl, fun e => ?_, fun e => ?_⟩))))))
  · obtain rfl : k = 0 := eqI_t e
    exact sy_raise1 (e_var rfl (h1 (by decide)))
  have n0 : k ≠ 0 := eqI_f e
  refine SWY.of (s_next ?_)
  refine sy_seq (sy_if (t_test (e_op (e_var rfl (e_int (r_eq rfl ⟨_, rfl, fun e => ?_, fun e => ?_⟩))))))
  · obtain rfl : k = 1 := eqI_t e
    exact sy_raise1 (e_var rfl (h1 (by decide)))
  have n1 : k ≠ 1 := eqI_f e
  refine SWY.of (s_next ?_)
  refine sy_seq (sy_if (t_test (e_op (e_var rfl (e_int (r_eq rfl ⟨_, rfl, fun e => ?_, fun e => ?_⟩))))))
  · obtain rfl : k = 2 := eqI_t e
    exact sy_raise1 (e_var rfl (h1 (by decide)))
  have n2 : k ≠ 2 := eqI_f e
  refine SWY.of (s_next ?_)
  refine sy_seq (sy_if (t_test (e_op (e_var rfl (e_int (r_eq rfl ⟨_, rfl, fun e => ?_, fun e => ?_⟩))))))
  · obtain rfl : k = 3 := eqI_t e
    exact sy_raise1 (e_var rfl (h1 (by decide)))
  have n3 : k ≠ 3 := eqI_f e
  refine SWY.of (s_next ?_)
  refine sy_seq (sy_if (t_test (e_op (e_var rfl (e_int (r_eq rfl ⟨_, rfl, fun e => ?_, fun e => ?_⟩))))))
  · obtain rfl : k = 4 := eqI_t e
    exact sy_raise1 (e_var rfl (h1 (by decide)))
  have n4 : k ≠ 4 := eqI_f e
  refine SWY.of (s_next ?_)
  refine sy_seq (sy_if (t_test (e_op (e_var rfl (e_int (r_eq rfl ⟨_, rfl, fun e => ?_, fun e => ?_⟩))))))
  · obtain rfl : k = 5 := eqI_t e
    exact sy_raise1 (e_var rfl (h1 (by decide)))
  have n5 : k ≠ 5 := eqI_f e
  refine SWY.of (s_next ?_)
  refine sy_seq (sy_if (t_test (e_op (e_var rfl (e_int (r_eq rfl ⟨_, rfl, fun e => ?_, fun e => ?_⟩))))))
  · obtain rfl : k = 6 := eqI_t e
    exact sy_raise1 (e_var rfl (h1 (by decide)))
  have n6 : k ≠ 6 := eqI_f e
  refine SWY.of (s_next ?_)
  refine sy_seq (sy_if (t_test (e_op (e_var rfl (e_int (r_eq rfl ⟨_, rfl, fun e => ?_, fun e => ?_⟩))))))
  · obtain rfl : k = 7 := eqI_t e
    exact sy_raise1 (e_var rfl (h1 (by decide)))
  have n7 : k ≠ 7 := eqI_f e
  refine SWY.of (s_next ?_)
  refine sy_seq (sy_if (t_test (e_op (e_var rfl (e_int (r_eq rfl ⟨_, rfl, fun e => ?_, fun e => ?_⟩))))))
  · obtain rfl : k = 8 := eqI_t e
    exact sy_raise1 (e_var rfl (h1 (by decide)))
  have n8 : k ≠ 8 := eqI_f e
  refine SWY.of (s_next ?_)
  refine sy_seq (sy_if (t_test (e_op (e_var rfl (e_int (r_eq rfl ⟨_, rfl, fun e => ?_, fun e => ?_⟩))))))
  · obtain rfl : k = 9 := eqI_t e
    exact sy_raise1 (e_var rfl (h1 (by decide)))
  have n9 : k ≠ 9 := eqI_f e
  refine SWY.of (s_next ?_)
  refine sy_seq (sy_if (t_test (e_op (e_var rfl (e_int (r_eq rfl ⟨_, rfl, fun e => ?_, fun e => ?_⟩))))))
  · obtain rfl : k = 10 := eqI_t e
    exact sy_raise1 (e_var rfl (h1 (by decide)))
  have n10 : k ≠ 10 := eqI_f e
  refine SWY.of (s_next ?_)
  refine sy_seq (sy_if (t_test (e_op (e_var rfl (e_int (r_eq rfl ⟨_, rfl, fun e => ?_, fun e => ?_⟩))))))
  · obtain rfl : k = 11 := eqI_t e
    exact sy_raise1 (e_var rfl (h1 (by decide)))
  have n11 : k ≠ 11 := eqI_f e
  refine SWY.of (s_next ?_)
  refine sy_if (t_test (e_op (e_var rfl (e_int (r_eq rfl ⟨_, rfl, fun e => ?_, fun e => ?_⟩)))))
  · obtain rfl : k = 12 := eqI_t e
    exact sy_raise1 (e_var rfl (h1 (by decide)))
  have n12 : k ≠ 12 := eqI_f e
  exact SWY.of (s_next (h2 (by omega)))
abbrev spRaiseM (T : Top P K mg) : ASpY := fun as Ω Q PX => ∃ (k : Nat) (t : Str), as = [.dat (.int ((k : Nat) : Int)), .dat (.str t)] ∧ 13 ≤ k ∧ (k < 24 → PX (.ref (cl T.xs k)) none Ω) ∧ (24 ≤ k → Q (.dat .none) Ω)
theorem ok_law_raise_more (T : Top P K mg) : FnOk P w K mg base (L2.CX P w) 1 T.f__law_raise_more T.d__law_raise_more ["_law_kind", "_law_text"] (spY K (spRaiseM T)) := by
  refine fnY_ok T.D__law_raise_more.F sc__law_raise_more (fun as Ω P PX ⟨k, t, e, _⟩ => by subst e; rfl) (fun cdv A outer s H E hr tk => ?_)
  refine ⟨_, (pss_cons (ps_if (pt_cmpR op_eq (pv 0) pe_int (nomark _))
      (pss_one (ps_raiseY1 T.Y_BadBoards rfl rfl rfl tk rfl (pv 1)))
      pss_nil)
    (pss_cons (ps_if (pt_cmpR op_eq (pv 0) pe_int (nomark _))
      (pss_one (ps_raiseY1 T.Y_BadComers rfl rfl rfl tk rfl (pv 1)))
      pss_nil)
    (pss_cons (ps_if (pt_cmpR op_eq (pv 0) pe_int (nomark _))
      (pss_one (ps_raiseY1 T.Y_BadPlace rfl rfl rfl tk rfl (pv 1)))
      pss_nil)
    (pss_cons (ps_if (pt_cmpR op_eq (pv 0) pe_int (nomark _))
      (pss_one (ps_raiseY1 T.Y_BadRules rfl rfl rfl tk rfl (pv 1)))
      pss_nil)
    (pss_cons (ps_if (pt_cmpR op_eq (pv 0) pe_int (nomark _))
      (pss_one (ps_raiseY1 T.Y_NothingToUndo rfl rfl rfl tk rfl (pv 1)))
      pss_nil)
    (pss_cons (ps_if (pt_cmpR op_eq (pv 0) pe_int (nomark _))
      (pss_one (ps_raiseY1 T.Y_Full rfl rfl rfl tk rfl (pv 1)))
      pss_nil)
    (pss_cons (ps_if (pt_cmpR op_eq (pv 0) pe_int (nomark _))
      (pss_one (ps_raiseY1 T.Y_TooMany rfl rfl rfl tk rfl (pv 1)))
      pss_nil)
    (pss_cons (ps_if (pt_cmpR op_eq (pv 0) pe_int (nomark _))
      (pss_one (ps_raiseY1 T.Y_BadCommand rfl rfl rfl tk rfl (pv 1)))
      pss_nil)
    (pss_cons (ps_if (pt_cmpR op_eq (pv 0) pe_int (nomark _))
      (pss_one (ps_raiseY1 T.Y_BadMove rfl rfl rfl tk rfl (pv 1)))
      pss_nil)
    (pss_cons (ps_if (pt_cmpR op_eq (pv 0) pe_int (nomark _))
      (pss_one (ps_raiseY1 T.Y_BadOpenings rfl rfl rfl tk rfl (pv 1)))
      pss_nil)
    (pss_one (ps_if (pt_cmpR op_eq (pv 0) pe_int (nomark _))
      (pss_one (ps_raiseY1 T.Y_BadView rfl rfl rfl tk rfl (pv 1)))
      pss_nil)))))))))))), ?_⟩
  rintro as Ω Q PX ⟨k, t, rfl, h0, h1, h2⟩
  refine sy_seq (sy_if (t_test (e_op (e_var rfl (e_int (r_eq rfl ⟨_, rfl, fun e => ?_, fun e => ?_⟩))))))
  · obtain rfl : k = 13 := eqI_t e
    exact sy_raise1 (e_var rfl (h1 (by decide)))
  have n13 : k ≠ 13 := eqI_f e
  refine SWY.of (s_next ?_)
  refine sy_seq (sy_if (t_test (e_op (e_var rfl (e_int (r_eq rfl ⟨_, rfl, fun e => ?_, fun e => ?_⟩))))))
  · obtain rfl : k = 14 := eqI_t e
    exact sy_raise1 (e_var rfl (h1 (by decide)))
  have n14 : k ≠ 14 := eqI_f e
  refine SWY.of (s_next ?_)
  refine sy_seq (sy_if (t_test (e_op (e_var rfl (e_int (r_eq rfl ⟨_, rfl, fun e => ?_, fun e => ?_⟩))))))
  · obtain rfl : k = 15 := eqI_t e
    exact sy_raise1 (e_var rfl (h1 (by decide)))
  have n15 : k ≠ 15 := eqI_f e
  refine SWY.of (s_next ?_)
  refine sy_seq (sy_if (t_test (e_op (e_var rfl (e_int (r_eq rfl ⟨_, rfl, fun e => ?_, fun e => ?_⟩))))))
  · obtain rfl : k = 16 := eqI_t e
    exact sy_raise1 (e_var rfl (h1 (by decide)))
  have n16 : k ≠ 16 := eqI_f e
  refine SWY.of (s_next ?_)
  refine sy_seq (sy_if (t_test (e_op (e_var rfl (e_int (r_eq rfl ⟨_, rfl, fun e => ?_, fun e => ?_⟩))))))
  · obtain rfl : k = 17 := eqI_t e
    exact sy_raise1 (e_var rfl (h1 (by decide)))
  have n17 : k ≠ 17 := eqI_f e
  refine SWY.of (s_next ?_)
  refine sy_seq (sy_if (t_test (e_op (e_var rfl (e_int (r_eq rfl ⟨_, rfl, fun e => ?_, fun e => ?_⟩))))))
  · obtain rfl : k = 18 := eqI_t e
    exact sy_raise1 (e_var rfl (h1 (by decide)))
  have n18 : k ≠ 18 := eqI_f e
  refine SWY.of (s_next ?_)
  refine sy_seq (sy_if (t_test (e_op (e_var rfl (e_int (r_eq rfl ⟨_, rfl, fun e => ?_, fun e => ?_⟩))))))
  · obtain rfl : k = 19 := eqI_t e
    exact sy_raise1 (e_var rfl (h1 (by decide)))
  have n19 : k ≠ 19 := eqI_f e
  refine SWY.of (s_next ?_)
  refine sy_seq (sy_if (t_test (e_op (e_var rfl (e_int (r_eq rfl ⟨_, rfl, fun e => ?_, fun e => ?_⟩))))))
  · obtain rfl : k = 20 := eqI_t e
    exact sy_raise1 (e_var rfl (h1 (by decide)))
  have n20 : k ≠ 20 := eqI_f e
  refine SWY.of (s_next ?_)
  refine sy_seq (sy_if (t_test (e_op (e_var rfl (e_int (r_eq rfl ⟨_, rfl, fun e => ?_, fun e => ?_⟩))))))
  · obtain rfl : k = 21 := eqI_t e
    exact sy_raise1 (e_var rfl (h1 (by decide)))
  have n21 : k ≠ 21 := eqI_f e
  refine SWY.of (s_next ?_)
  refine sy_seq (sy_if (t_test (e_op (e_var rfl (e_int (r_eq rfl ⟨_, rfl, fun e => ?_, fun e => ?_⟩))))))
  · obtain rfl : k = 22 := eqI_t e
    exact sy_raise1 (e_var rfl (h1 (by decide)))
  have n22 : k ≠ 22 := eqI_f e
  refine SWY.of (s_next ?_)
  refine sy_if (t_test (e_op (e_var rfl (e_int (r_eq rfl ⟨_, rfl, fun e => ?_, fun e => ?_⟩)))))
  · obtain rfl : k = 23 := eqI_t e
    exact sy_raise1 (e_var rfl (h1 (by decide)))
  have n23 : k ≠ 23 := eqI_f e
  exact SWY.of (s_next (h2 (by omega)))
abbrev spRaiseL (T : Top P K mg) : ASpY := fun as Ω Q PX => ∃ (k : Nat) (t : Str) (z : Int), as = [.dat (.int ((k : Nat) : Int)), .dat (.str t), .dat (.int z)] ∧ 24 ≤ k ∧ k < 29 ∧ z.natAbs.log2 < 1920 ∧ PX (.ref (cl T.xs k)) (if k < 28 then some z else none) Ω
theorem ok_law_raise_last (T : Top P K mg) : FnOk P w K mg base (L2.CX P w) 3 T.f__law_raise_last T.d__law_raise_last ["_law_kind", "_law_text", "_law_spot"] (spY K (spRaiseL T)) := by
  refine fnY_ok T.D__law_raise_last.F sc__law_raise_last (fun as Ω P PX ⟨k, t, z, e, _⟩ => by subst e; rfl) (fun cdv A outer s H E hr tk => ?_)
  refine ⟨_, (pss_cons (ps_if (pt_cmpR op_eq (pv 0) pe_int (nomark _))
      (pss_one (ps_raiseP (k := 0) T.Y_BadWalk rfl rfl rfl rfl (hr.mono (by omega)) tk rfl (pa_cons (pv 2) pa_nil)))
      pss_nil)
    (pss_cons (ps_if (pt_cmpR op_eq (pv 0) pe_int (nomark _))
      (pss_one (ps_raiseP (k := 0) T.Y_BadRow rfl rfl rfl rfl (hr.mono (by omega)) tk rfl (pa_cons (pv 2) pa_nil)))
      pss_nil)
    (pss_cons (ps_if (pt_cmpR op_eq (pv 0) pe_int (nomark _))
      (pss_one (ps_raiseP (k := 0) T.Y_BadAsking rfl rfl rfl rfl (hr.mono (by omega)) tk rfl (pa_cons (pv 2) pa_nil)))
      pss_nil)
    (pss_cons (ps_if (pt_cmpR op_eq (pv 0) pe_int (nomark _))
      (pss_one (ps_raiseP (k := 0) T.Y_BadText rfl rfl rfl rfl (hr.mono (by omega)) tk rfl (pa_cons (pv 2) pa_nil)))
      pss_nil)
    (pss_one (ps_raiseY1 T.Y_ParlourError rfl rfl rfl tk rfl (pv 1))))))), ?_⟩
  rintro as Ω Q PX ⟨k, t, z, rfl, h0, h1, hz, h⟩
  refine sy_seq (sy_if (t_test (e_op (e_var rfl (e_int (r_eq rfl ⟨_, rfl, fun e => ?_, fun e => ?_⟩))))))
  · obtain rfl : k = 24 := eqI_t e
    exact sy_raiseP (a_cons (e_var rfl (a_nil ⟨z, rfl, hz, h⟩)))
  have n24 : k ≠ 24 := eqI_f e
  refine SWY.of (s_next ?_)
  refine sy_seq (sy_if (t_test (e_op (e_var rfl (e_int (r_eq rfl ⟨_, rfl, fun e => ?_, fun e => ?_⟩))))))
  · obtain rfl : k = 25 := eqI_t e
    exact sy_raiseP (a_cons (e_var rfl (a_nil ⟨z, rfl, hz, h⟩)))
  have n25 : k ≠ 25 := eqI_f e
  refine SWY.of (s_next ?_)
  refine sy_seq (sy_if (t_test (e_op (e_var rfl (e_int (r_eq rfl ⟨_, rfl, fun e => ?_, fun e => ?_⟩))))))
  · obtain rfl : k = 26 := eqI_t e
    exact sy_raiseP (a_cons (e_var rfl (a_nil ⟨z, rfl, hz, h⟩)))
  have n26 : k ≠ 26 := eqI_f e
  refine SWY.of (s_next ?_)
  refine sy_seq (sy_if (t_test (e_op (e_var rfl (e_int (r_eq rfl ⟨_, rfl, fun e => ?_, fun e => ?_⟩))))))
  · obtain rfl : k = 27 := eqI_t e
    exact sy_raiseP (a_cons (e_var rfl (a_nil ⟨z, rfl, hz, h⟩)))
  have n27 : k ≠ 27 := eqI_f e
  refine SWY.of (s_next ?_)
  obtain rfl : k = 28 := by omega
  exact sy_raise1 (e_var rfl h)
end
end K00

set_option Elab.async false
set_option linter.all false
set_option maxRecDepth 100000
set_option maxHeartbeats 2000000
namespace K00
open PySem PySem.Spec PyProof.Rows L2 Dat Exh
local macro_rules | `(tactic| trivial) => `(tactic| (first
  | (with_reducible refine s_seq ?_)
  | (with_reducible refine s_asg ?_)
  | (with_reducible refine s_ret ?_)
  | (with_reducible refine s_drop ?_)
  | (with_reducible refine s_next ?_)
  | (with_reducible refine s_retN ?_)
  | (with_reducible refine s_brk ?_)
  | (with_reducible refine s_cont ?_)
  | (with_reducible refine s_if ?_)
  | (with_reducible refine e_int ?_)
  | (with_reducible refine e_str ?_)
  | (with_reducible refine e_bl ?_)
  | (with_reducible refine e_non ?_)
  | (with_reducible refine e_ty ?_)
  | (with_reducible refine e_tupD ?_)
  | (with_reducible refine e_lstD ?_)
  | (with_reducible refine e_op ?_)
  | (with_reducible refine e_un ?_)
  | (with_reducible refine e_then ?_)
  | (with_reducible refine e_cb ?_)
  | (with_reducible refine e_call ?_)
  | (with_reducible refine e_if ?_)
  | (with_reducible refine e_chain ?_)
  | (with_reducible refine e_andV ?_)
  | (with_reducible refine e_orV ?_)
  | (with_reducible refine e_notV ?_)
  | (with_reducible refine a_cons ?_)
  | (with_reducible refine a_nil ?_)
  | (with_reducible refine t_test ?_)
  | (with_reducible refine t_B ?_)
  | (with_reducible refine t_not ?_)
  | (with_reducible refine t_and ?_)
  | (with_reducible refine t_or ?_)
  | (with_reducible refine r_I0i ?_)
  | (with_reducible refine r_I0b ?_)
  | (with_reducible refine r_neg ?_)
  | (with_reducible refine r_isN ?_)
  | (with_reducible refine r_notN ?_)
  | (with_reducible refine c_lenT ?_)
  | (with_reducible refine c_lenL ?_)
  | (with_reducible refine c_intI ?_)
  | (with_reducible refine c_intB ?_)
  | (with_reducible refine c_max2 ?_)
  | (with_reducible refine c_min2 ?_)
  | (with_reducible refine c_abs ?_)
  | (with_reducible refine r_tupL ?_)
  | (with_reducible refine r_tupT ?_)
  | (with_reducible refine c_allM ?_)
  | ((with_reducible apply e_var); (exact rfl))
  | ((with_reducible refine r_eq ?_ ?_); (exact rfl))
  | ((with_reducible refine r_ne ?_ ?_); (exact rfl))
  | (with_reducible refine c_isi kit_int ?_)
  | (with_reducible refine c_isi kit_bool ?_)
  | (with_reducible refine c_isi kit_tuple ?_)
  | (with_reducible refine c_isi kit_list ?_)
  | (with_reducible refine c_isi kit_str ?_)
  | ((with_reducible apply r_ixT); (exact rfl))
  | ((with_reducible apply dats_pack); (iterate 40 (first | exact Dats.nil | apply Dats.cons | skip)); (exact rfl))
  | (with_reducible refine s_asgG ?_) | (with_reducible refine g_name ?_) | ((with_reducible refine g_tup ?_ ?_); (exact rfl)) | (refine gs_nil ?_) | (refine gs_cons ?_) | (with_reducible refine ⟨rfl, ?_⟩)
  | (refine ⟨_, rfl, ?_⟩) | (refine ⟨_, _, rfl, ?_⟩) | (refine ⟨_, _, _, rfl, ?_⟩) | (with_reducible refine ⟨fun _ => ?_, fun _ => ?_⟩) | fail))
section
variable {P : Program} {w : World} {K : PySem.W.Frag} [Tb K] {mg : Str → Option Value} {base : Heap}
/-! ### the marks of an error -/
abbrev marks (k lo n : Nat) : List PyData := (List.range' lo n).map fun j => PyData.bool (j == k)
abbrev spMk (T : Top P K mg) (lo n : Nat) (q : Addr × Obj) : ASp := fun as Ω Q => ∃ (k : Nat) (pl : Option Int) (d : Option Addr), as = [exA q.1 pl d] ∧ k < 29 ∧ (∃ vs, q.2.data = .fields vs) ∧ Zc (.ref (cl T.xs k)) d q.2 ∧ (pl = none → d = none) ∧ Q (.dat (.list (marks k lo n))) Ω
theorem ok_law_marks (T : Top P K mg) : FnP P w K mg base 1 T.f__law_marks T.d__law_marks ["_law_e"] (fun q => spA K (spMk T 0 13 q)) := by
  refine fnPA_ok T.D__law_marks.F sc__law_marks (fun q as Ω P ⟨k, pl, d, e, _⟩ => by subst e; rfl) (fun cdv A below s H q hr => ?_)
  refine ⟨_, (pss_cons (ps_set (i := 1) sc__law_marks.nd rfl (.inl rfl) (pe_lst (pa_cons (pe_callB (call_isH (q := q) (List.mem_cons_self ..)) rfl T.b_isinstance bt_isinstance (pa_cons (pv 0) (pa_cons (pe_glob (v := .ref T.x_BadWeb) rfl T.Y_BadWeb.g rfl) pa_nil))) (pa_cons (pe_callB (call_isH (q := q) (List.mem_cons_self ..)) rfl T.b_isinstance bt_isinstance (pa_cons (pv 0) (pa_cons (pe_glob (v := .ref T.x_BadFraction) rfl T.Y_BadFraction.g rfl) pa_nil))) (pa_cons (pe_callB (call_isH (q := q) (List.mem_cons_self ..)) rfl T.b_isinstance bt_isinstance (pa_cons (pv 0) (pa_cons (pe_glob (v := .ref T.x_BadCount) rfl T.Y_BadCount.g rfl) pa_nil))) pa_nil)))))
    (pss_cons (ps_set (i := 1) sc__law_marks.nd rfl (.inl rfl) (pe_op op_cat (pv 1) (pe_lst (pa_cons (pe_callB (call_isH (q := q) (List.mem_cons_self ..)) rfl T.b_isinstance bt_isinstance (pa_cons (pv 0) (pa_cons (pe_glob (v := .ref T.x_BadGame) rfl T.Y_BadGame.g rfl) pa_nil))) (pa_cons (pe_callB (call_isH (q := q) (List.mem_cons_self ..)) rfl T.b_isinstance bt_isinstance (pa_cons (pv 0) (pa_cons (pe_glob (v := .ref T.x_BadWay) rfl T.Y_BadWay.g rfl) pa_nil))) (pa_cons (pe_callB (call_isH (q := q) (List.mem_cons_self ..)) rfl T.b_isinstance bt_isinstance (pa_cons (pv 0) (pa_cons (pe_glob (v := .ref T.x_BadOwner) rfl T.Y_BadOwner.g rfl) pa_nil))) (pa_cons (pe_callB (call_isH (q := q) (List.mem_cons_self ..)) rfl T.b_isinstance bt_isinstance (pa_cons (pv 0) (pa_cons (pe_glob (v := .ref T.x_BadSetup) rfl T.Y_BadSetup.g rfl) pa_nil))) pa_nil)))))))
    (pss_cons (ps_set (i := 1) sc__law_marks.nd rfl (.inl rfl) (pe_op op_cat (pv 1) (pe_lst (pa_cons (pe_callB (call_isH (q := q) (List.mem_cons_self ..)) rfl T.b_isinstance bt_isinstance (pa_cons (pv 0) (pa_cons (pe_glob (v := .ref T.x_BadSeats) rfl T.Y_BadSeats.g rfl) pa_nil))) (pa_cons (pe_callB (call_isH (q := q) (List.mem_cons_self ..)) rfl T.b_isinstance bt_isinstance (pa_cons (pv 0) (pa_cons (pe_glob (v := .ref T.x_NotDeaf) rfl T.Y_NotDeaf.g rfl) pa_nil))) (pa_cons (pe_callB (call_isH (q := q) (List.mem_cons_self ..)) rfl T.b_isinstance bt_isinstance (pa_cons (pv 0) (pa_cons (pe_glob (v := .ref T.x_BadWhat) rfl T.Y_BadWhat.g rfl) pa_nil))) (pa_cons (pe_callB (call_isH (q := q) (List.mem_cons_self ..)) rfl T.b_isinstance bt_isinstance (pa_cons (pv 0) (pa_cons (pe_glob (v := .ref T.x_BadTubs) rfl T.Y_BadTubs.g rfl) pa_nil))) pa_nil)))))))
    (pss_cons (ps_set (i := 1) sc__law_marks.nd rfl (.inl rfl) (pe_op op_cat (pv 1) (pe_lst (pa_cons (pe_callB (call_isH (q := q) (List.mem_cons_self ..)) rfl T.b_isinstance bt_isinstance (pa_cons (pv 0) (pa_cons (pe_glob (v := .ref T.x_BadRule) rfl T.Y_BadRule.g rfl) pa_nil))) (pa_cons (pe_callB (call_isH (q := q) (List.mem_cons_self ..)) rfl T.b_isinstance bt_isinstance (pa_cons (pv 0) (pa_cons (pe_glob (v := .ref T.x_BadBill) rfl T.Y_BadBill.g rfl) pa_nil))) pa_nil)))))
    (pss_one (ps_ret (pv 1))))))), ?_⟩
  rintro as Ω Q ⟨k, pl, d, rfl, hk, hf, hz, hn, h⟩
  refine s_seq (s_asg (e_lstD (a_cons (e_cb (a_cons (e_var rfl (a_cons (e_clsY (a_nil (c_isH hf hz (T.ec k hk) (T.kt k hk 0 (by decide)) hn (a_cons (e_cb (a_cons (e_var rfl (a_cons (e_clsY (a_nil (c_isH hf hz (T.ec k hk) (T.kt k hk 1 (by decide)) hn (a_cons (e_cb (a_cons (e_var rfl (a_cons (e_clsY (a_nil (c_isH hf hz (T.ec k hk) (T.kt k hk 2 (by decide)) hn (a_nil ⟨_, (.cons (.cons (.cons .nil))), rfl, ?_⟩)))))))))))))))))))))))))))
  refine s_seq (s_asg (e_op (e_var rfl (e_lstD (a_cons (e_cb (a_cons (e_var rfl (a_cons (e_clsY (a_nil (c_isH hf hz (T.ec k hk) (T.kt k hk 3 (by decide)) hn (a_cons (e_cb (a_cons (e_var rfl (a_cons (e_clsY (a_nil (c_isH hf hz (T.ec k hk) (T.kt k hk 4 (by decide)) hn (a_cons (e_cb (a_cons (e_var rfl (a_cons (e_clsY (a_nil (c_isH hf hz (T.ec k hk) (T.kt k hk 5 (by decide)) hn (a_cons (e_cb (a_cons (e_var rfl (a_cons (e_clsY (a_nil (c_isH hf hz (T.ec k hk) (T.kt k hk 6 (by decide)) hn (a_nil ⟨_, (.cons (.cons (.cons (.cons .nil)))), rfl, r_catL (by simp) ?_⟩)))))))))))))))))))))))))))))))))))))
  refine s_seq (s_asg (e_op (e_var rfl (e_lstD (a_cons (e_cb (a_cons (e_var rfl (a_cons (e_clsY (a_nil (c_isH hf hz (T.ec k hk) (T.kt k hk 7 (by decide)) hn (a_cons (e_cb (a_cons (e_var rfl (a_cons (e_clsY (a_nil (c_isH hf hz (T.ec k hk) (T.kt k hk 8 (by decide)) hn (a_cons (e_cb (a_cons (e_var rfl (a_cons (e_clsY (a_nil (c_isH hf hz (T.ec k hk) (T.kt k hk 9 (by decide)) hn (a_cons (e_cb (a_cons (e_var rfl (a_cons (e_clsY (a_nil (c_isH hf hz (T.ec k hk) (T.kt k hk 10 (by decide)) hn (a_nil ⟨_, (.cons (.cons (.cons (.cons .nil)))), rfl, r_catL (by simp) ?_⟩)))))))))))))))))))))))))))))))))))))
  refine s_seq (s_asg (e_op (e_var rfl (e_lstD (a_cons (e_cb (a_cons (e_var rfl (a_cons (e_clsY (a_nil (c_isH hf hz (T.ec k hk) (T.kt k hk 11 (by decide)) hn (a_cons (e_cb (a_cons (e_var rfl (a_cons (e_clsY (a_nil (c_isH hf hz (T.ec k hk) (T.kt k hk 12 (by decide)) hn (a_nil ⟨_, (.cons (.cons .nil)), rfl, r_catL (by simp) ?_⟩)))))))))))))))))))))
  exact s_ret (e_var rfl h)
theorem ok_law_more_marks (T : Top P K mg) : FnP P w K mg base 1 T.f__law_more_marks T.d__law_more_marks ["_law_e"] (fun q => spA K (spMk T 13 11 q)) := by
  refine fnPA_ok T.D__law_more_marks.F sc__law_more_marks (fun q as Ω P ⟨k, pl, d, e, _⟩ => by subst e; rfl) (fun cdv A below s H q hr => ?_)
  refine ⟨_, (pss_cons (ps_set (i := 1) sc__law_more_marks.nd rfl (.inl rfl) (pe_lst (pa_cons (pe_callB (call_isH (q := q) (List.mem_cons_self ..)) rfl T.b_isinstance bt_isinstance (pa_cons (pv 0) (pa_cons (pe_glob (v := .ref T.x_BadBoards) rfl T.Y_BadBoards.g rfl) pa_nil))) (pa_cons (pe_callB (call_isH (q := q) (List.mem_cons_self ..)) rfl T.b_isinstance bt_isinstance (pa_cons (pv 0) (pa_cons (pe_glob (v := .ref T.x_BadComers) rfl T.Y_BadComers.g rfl) pa_nil))) (pa_cons (pe_callB (call_isH (q := q) (List.mem_cons_self ..)) rfl T.b_isinstance bt_isinstance (pa_cons (pv 0) (pa_cons (pe_glob (v := .ref T.x_BadPlace) rfl T.Y_BadPlace.g rfl) pa_nil))) pa_nil)))))
    (pss_cons (ps_set (i := 1) sc__law_more_marks.nd rfl (.inl rfl) (pe_op op_cat (pv 1) (pe_lst (pa_cons (pe_callB (call_isH (q := q) (List.mem_cons_self ..)) rfl T.b_isinstance bt_isinstance (pa_cons (pv 0) (pa_cons (pe_glob (v := .ref T.x_BadRules) rfl T.Y_BadRules.g rfl) pa_nil))) (pa_cons (pe_callB (call_isH (q := q) (List.mem_cons_self ..)) rfl T.b_isinstance bt_isinstance (pa_cons (pv 0) (pa_cons (pe_glob (v := .ref T.x_NothingToUndo) rfl T.Y_NothingToUndo.g rfl) pa_nil))) (pa_cons (pe_callB (call_isH (q := q) (List.mem_cons_self ..)) rfl T.b_isinstance bt_isinstance (pa_cons (pv 0) (pa_cons (pe_glob (v := .ref T.x_Full) rfl T.Y_Full.g rfl) pa_nil))) pa_nil))))))
    (pss_cons (ps_set (i := 1) sc__law_more_marks.nd rfl (.inl rfl) (pe_op op_cat (pv 1) (pe_lst (pa_cons (pe_callB (call_isH (q := q) (List.mem_cons_self ..)) rfl T.b_isinstance bt_isinstance (pa_cons (pv 0) (pa_cons (pe_glob (v := .ref T.x_TooMany) rfl T.Y_TooMany.g rfl) pa_nil))) (pa_cons (pe_callB (call_isH (q := q) (List.mem_cons_self ..)) rfl T.b_isinstance bt_isinstance (pa_cons (pv 0) (pa_cons (pe_glob (v := .ref T.x_BadCommand) rfl T.Y_BadCommand.g rfl) pa_nil))) (pa_cons (pe_callB (call_isH (q := q) (List.mem_cons_self ..)) rfl T.b_isinstance bt_isinstance (pa_cons (pv 0) (pa_cons (pe_glob (v := .ref T.x_BadMove) rfl T.Y_BadMove.g rfl) pa_nil))) pa_nil))))))
    (pss_cons (ps_set (i := 1) sc__law_more_marks.nd rfl (.inl rfl) (pe_op op_cat (pv 1) (pe_lst (pa_cons (pe_callB (call_isH (q := q) (List.mem_cons_self ..)) rfl T.b_isinstance bt_isinstance (pa_cons (pv 0) (pa_cons (pe_glob (v := .ref T.x_BadOpenings) rfl T.Y_BadOpenings.g rfl) pa_nil))) (pa_cons (pe_callB (call_isH (q := q) (List.mem_cons_self ..)) rfl T.b_isinstance bt_isinstance (pa_cons (pv 0) (pa_cons (pe_glob (v := .ref T.x_BadView) rfl T.Y_BadView.g rfl) pa_nil))) pa_nil)))))
    (pss_one (ps_ret (pv 1))))))), ?_⟩
  rintro as Ω Q ⟨k, pl, d, rfl, hk, hf, hz, hn, h⟩
  refine s_seq (s_asg (e_lstD (a_cons (e_cb (a_cons (e_var rfl (a_cons (e_clsY (a_nil (c_isH hf hz (T.ec k hk) (T.kt k hk 13 (by decide)) hn (a_cons (e_cb (a_cons (e_var rfl (a_cons (e_clsY (a_nil (c_isH hf hz (T.ec k hk) (T.kt k hk 14 (by decide)) hn (a_cons (e_cb (a_cons (e_var rfl (a_cons (e_clsY (a_nil (c_isH hf hz (T.ec k hk) (T.kt k hk 15 (by decide)) hn (a_nil ⟨_, (.cons (.cons (.cons .nil))), rfl, ?_⟩)))))))))))))))))))))))))))
  refine s_seq (s_asg (e_op (e_var rfl (e_lstD (a_cons (e_cb (a_cons (e_var rfl (a_cons (e_clsY (a_nil (c_isH hf hz (T.ec k hk) (T.kt k hk 16 (by decide)) hn (a_cons (e_cb (a_cons (e_var rfl (a_cons (e_clsY (a_nil (c_isH hf hz (T.ec k hk) (T.kt k hk 17 (by decide)) hn (a_cons (e_cb (a_cons (e_var rfl (a_cons (e_clsY (a_nil (c_isH hf hz (T.ec k hk) (T.kt k hk 18 (by decide)) hn (a_nil ⟨_, (.cons (.cons (.cons .nil))), rfl, r_catL (by simp) ?_⟩)))))))))))))))))))))))))))))
  refine s_seq (s_asg (e_op (e_var rfl (e_lstD (a_cons (e_cb (a_cons (e_var rfl (a_cons (e_clsY (a_nil (c_isH hf hz (T.ec k hk) (T.kt k hk 19 (by decide)) hn (a_cons (e_cb (a_cons (e_var rfl (a_cons (e_clsY (a_nil (c_isH hf hz (T.ec k hk) (T.kt k hk 20 (by decide)) hn (a_cons (e_cb (a_cons (e_var rfl (a_cons (e_clsY (a_nil (c_isH hf hz (T.ec k hk) (T.kt k hk 21 (by decide)) hn (a_nil ⟨_, (.cons (.cons (.cons .nil))), rfl, r_catL (by simp) ?_⟩)))))))))))))))))))))))))))))
  refine s_seq (s_asg (e_op (e_var rfl (e_lstD (a_cons (e_cb (a_cons (e_var rfl (a_cons (e_clsY (a_nil (c_isH hf hz (T.ec k hk) (T.kt k hk 22 (by decide)) hn (a_cons (e_cb (a_cons (e_var rfl (a_cons (e_clsY (a_nil (c_isH hf hz (T.ec k hk) (T.kt k hk 23 (by decide)) hn (a_nil ⟨_, (.cons (.cons .nil)), rfl, r_catL (by simp) ?_⟩)))))))))))))))))))))
  exact s_ret (e_var rfl h)
theorem ok_law_last_marks (T : Top P K mg) : FnP P w K mg base 1 T.f__law_last_marks T.d__law_last_marks ["_law_e"] (fun q => spA K (spMk T 24 4 q)) := by
  refine fnPA_ok T.D__law_last_marks.F sc__law_last_marks (fun q as Ω P ⟨k, pl, d, e, _⟩ => by subst e; rfl) (fun cdv A below s H q hr => ?_)
  refine ⟨_, (pss_one (ps_ret (pe_lst (pa_cons (pe_callB (call_isH (q := q) (List.mem_cons_self ..)) rfl T.b_isinstance bt_isinstance (pa_cons (pv 0) (pa_cons (pe_glob (v := .ref T.x_BadWalk) rfl T.Y_BadWalk.gC rfl) pa_nil))) (pa_cons (pe_callB (call_isH (q := q) (List.mem_cons_self ..)) rfl T.b_isinstance bt_isinstance (pa_cons (pv 0) (pa_cons (pe_glob (v := .ref T.x_BadRow) rfl T.Y_BadRow.gC rfl) pa_nil))) (pa_cons (pe_callB (call_isH (q := q) (List.mem_cons_self ..)) rfl T.b_isinstance bt_isinstance (pa_cons (pv 0) (pa_cons (pe_glob (v := .ref T.x_BadAsking) rfl T.Y_BadAsking.gC rfl) pa_nil))) (pa_cons (pe_callB (call_isH (q := q) (List.mem_cons_self ..)) rfl T.b_isinstance bt_isinstance (pa_cons (pv 0) (pa_cons (pe_glob (v := .ref T.x_BadText) rfl T.Y_BadText.gC rfl) pa_nil))) pa_nil))))))), ?_⟩
  rintro as Ω Q ⟨k, pl, d, rfl, hk, hf, hz, hn, h⟩
  exact s_ret (e_lstD (a_cons (e_cb (a_cons (e_var rfl (a_cons (e_clsY (a_nil (c_isH hf hz (T.ec k hk) (T.kt k hk 24 (by decide)) hn (a_cons (e_cb (a_cons (e_var rfl (a_cons (e_clsY (a_nil (c_isH hf hz (T.ec k hk) (T.kt k hk 25 (by decide)) hn (a_cons (e_cb (a_cons (e_var rfl (a_cons (e_clsY (a_nil (c_isH hf hz (T.ec k hk) (T.kt k hk 26 (by decide)) hn (a_cons (e_cb (a_cons (e_var rfl (a_cons (e_clsY (a_nil (c_isH hf hz (T.ec k hk) (T.kt k hk 27 (by decide)) hn (a_nil ⟨_, (.cons (.cons (.cons (.cons .nil)))), rfl, h⟩))))))))))))))))))))))))))))))))))
end
end K00

set_option Elab.async false
set_option linter.all false
set_option maxRecDepth 100000
set_option maxHeartbeats 2000000
namespace K00
open PySem PySem.Spec PyProof.Rows L2 Dat Exh
local macro_rules | `(tactic| trivial) => `(tactic| (first
  | (with_reducible refine s_seq ?_)
  | (with_reducible refine s_asg ?_)
  | (with_reducible refine s_ret ?_)
  | (with_reducible refine s_drop ?_)
  | (with_reducible refine s_next ?_)
  | (with_reducible refine s_retN ?_)
  | (with_reducible refine s_brk ?_)
  | (with_reducible refine s_cont ?_)
  | (with_reducible refine s_if ?_)
  | (with_reducible refine e_int ?_)
  | (with_reducible refine e_str ?_)
  | (with_reducible refine e_bl ?_)
  | (with_reducible refine e_non ?_)
  | (with_reducible refine e_ty ?_)
  | (with_reducible refine e_tupD ?_)
  | (with_reducible refine e_lstD ?_)
  | (with_reducible refine e_op ?_)
  | (with_reducible refine e_un ?_)
  | (with_reducible refine e_then ?_)
  | (with_reducible refine e_cb ?_)
  | (with_reducible refine e_call ?_)
  | (with_reducible refine e_if ?_)
  | (with_reducible refine e_chain ?_)
  | (with_reducible refine e_andV ?_)
  | (with_reducible refine e_orV ?_)
  | (with_reducible refine e_notV ?_)
  | (with_reducible refine a_cons ?_)
  | (with_reducible refine a_nil ?_)
  | (with_reducible refine t_test ?_)
  | (with_reducible refine t_B ?_)
  | (with_reducible refine t_not ?_)
  | (with_reducible refine t_and ?_)
  | (with_reducible refine t_or ?_)
  | (with_reducible refine r_I0i ?_)
  | (with_reducible refine r_I0b ?_)
  | (with_reducible refine r_neg ?_)
  | (with_reducible refine r_isN ?_)
  | (with_reducible refine r_notN ?_)
  | (with_reducible refine c_lenT ?_)
  | (with_reducible refine c_lenL ?_)
  | (with_reducible refine c_intI ?_)
  | (with_reducible refine c_intB ?_)
  | (with_reducible refine c_max2 ?_)
  | (with_reducible refine c_min2 ?_)
  | (with_reducible refine c_abs ?_)
  | (with_reducible refine r_tupL ?_)
  | (with_reducible refine r_tupT ?_)
  | (with_reducible refine c_allM ?_)
  | ((with_reducible apply e_var); (exact rfl))
  | ((with_reducible refine r_eq ?_ ?_); (exact rfl))
  | ((with_reducible refine r_ne ?_ ?_); (exact rfl))
  | (with_reducible refine c_isi kit_int ?_)
  | (with_reducible refine c_isi kit_bool ?_)
  | (with_reducible refine c_isi kit_tuple ?_)
  | (with_reducible refine c_isi kit_list ?_)
  | (with_reducible refine c_isi kit_str ?_)
  | ((with_reducible apply r_ixT); (exact rfl))
  | ((with_reducible apply dats_pack); (iterate 40 (first | exact Dats.nil | apply Dats.cons | skip)); (exact rfl))
  | (with_reducible refine s_asgG ?_) | (with_reducible refine g_name ?_) | ((with_reducible refine g_tup ?_ ?_); (exact rfl)) | (refine gs_nil ?_) | (refine gs_cons ?_) | (with_reducible refine ⟨rfl, ?_⟩)
  | (refine ⟨_, rfl, ?_⟩) | (refine ⟨_, _, rfl, ?_⟩) | (refine ⟨_, _, _, rfl, ?_⟩) | (with_reducible refine ⟨fun _ => ?_, fun _ => ?_⟩) | fail))
theorem marks_all {k : Nat} : marks k 0 13 ++ marks k 13 11 ++ marks k 24 4 = marks k 0 28 := rfl
theorem bt_ValueError : bootBuiltins "ValueError" = some (.type "ValueError") := by decide +kernel
section
variable {P : Program} {w : World} {K : PySem.W.Frag} [Tb K] {mg : Str → Option Value} {base : Heap}
theorem eq0 {j k : Nat} : eqD (.int (0 + ((j : Nat) : Int))) (.int ((k : Nat) : Int)) = (j == k) := by
  show decide (0 + ((j : Nat) : Int) = ((k : Nat) : Int)) = (j == k)
  by_cases e : j = k
  · subst e
    rw [decide_eq_true (by omega), beq_self_eq_true]
  · rw [decide_eq_false (by omega), beq_eq_false_iff_ne.mpr e]
theorem lay_marks {k : Nat} : Lay (.list (marks k 0 28)) 1 := Lay.lst (lay_map fun j _ => ⟨by simp [PyData.canLay0], by simp [PyData.depth]⟩)
abbrev spRight : ASp := fun as Ω Q => ∃ (k : Nat) (t : Str) (z : Int), as = [.dat (.int ((k : Nat) : Int)), .dat (.str t), .dat (.int z)] ∧ k < 29 ∧ z.natAbs.log2 < 1920 ∧ Q (.dat (.bool true)) Ω
theorem ok_law_right (T : Top P K mg) : FnOk P w K mg base CX0 5 T.f__law_right T.d__law_right ["_law_kind", "_law_text", "_law_spot"] (spA K spRight) := by
  have G__law_raise : FnOk P w K mg base (L2.CX P w) 1 T.f__law_raise T.d__law_raise ["_law_kind", "_law_text"] (spY K (spRaise T)) := ok_law_raise T
  have G__law_raise_more : FnOk P w K mg base (L2.CX P w) 1 T.f__law_raise_more T.d__law_raise_more ["_law_kind", "_law_text"] (spY K (spRaiseM T)) := ok_law_raise_more T
  have G__law_raise_last : FnOk P w K mg base (L2.CX P w) 3 T.f__law_raise_last T.d__law_raise_last ["_law_kind", "_law_text", "_law_spot"] (spY K (spRaiseL T)) := ok_law_raise_last T
  have G__law_marks : FnP P w K mg base 1 T.f__law_marks T.d__law_marks ["_law_e"] (fun q => spA K (spMk T 0 13 q)) := ok_law_marks T
  have G__law_more_marks : FnP P w K mg base 1 T.f__law_more_marks T.d__law_more_marks ["_law_e"] (fun q => spA K (spMk T 13 11 q)) := ok_law_more_marks T
  have G__law_last_marks : FnP P w K mg base 1 T.f__law_last_marks T.d__law_last_marks ["_law_e"] (fun q => spA K (spMk T 24 4 q)) := ok_law_last_marks T
  refine fnA_ok T.D__law_right.F sc__law_right (fun as Ω Q ⟨k, t, z, e, _⟩ => by subst e; rfl) (fun cdv A outer s H E hr => ?_)
  refine ⟨_, (pss_cons (ps_set (i := 3) sc__law_right.nd rfl (.inl rfl) (pe_lst pa_nil))
    (pss_cons (ps_try_as (i := 4) rfl rfl sc__law_right.nd rfl rfl ⟨rfl, by decide, .inl T.m_ParlourError⟩ L2.takes0 (fun W pn xe tk po => (pss_cons (ps_expr (pe_callS G__law_raise (hr.mono (by omega)) rfl T.D__law_raise.g T.D__law_raise.F.kp T.D__law_raise.b (passAt tk) (pa_cons (pv 0) (pa_cons (pv 1) pa_nil))))
    (pss_cons (ps_expr (pe_callS G__law_raise_more (hr.mono (by omega)) rfl T.D__law_raise_more.g T.D__law_raise_more.F.kp T.D__law_raise_more.b (passAt tk) (pa_cons (pv 0) (pa_cons (pv 1) pa_nil))))
    (pss_one (ps_expr (pe_callS G__law_raise_last (hr.mono (by omega)) rfl T.D__law_raise_last.g T.D__law_raise_last.F.kp T.D__law_raise_last.b (passAt tk) (pa_cons (pv 0) (pa_cons (pv 1) (pa_cons (pv 2) pa_nil)))))))))
      (fun a oe cls d pn hz hf => (pss_cons (ps_set (i := 3) sc__law_right.nd rfl (.inl rfl) (pe_op op_cat (pe_op op_cat (pe_callP hz hf G__law_marks (L2H.roomH_of (hr.mono (by omega))) rfl T.D__law_marks.g T.D__law_marks.F.kp T.D__law_marks.b (pa_cons (pv 4) pa_nil)) (pe_callP hz hf G__law_more_marks (L2H.roomH_of (hr.mono (by omega))) rfl T.D__law_more_marks.g T.D__law_more_marks.F.kp T.D__law_more_marks.b (pa_cons (pv 4) pa_nil))) (pe_callP hz hf G__law_last_marks (L2H.roomH_of (hr.mono (by omega))) rfl T.D__law_last_marks.g T.D__law_last_marks.F.kp T.D__law_last_marks.b (pa_cons (pv 4) pa_nil))))
    (pss_one (ps_if (PW.pt (pw_or (pt_not (pt_val (pe_callB (call_isP hz hf) rfl T.b_isinstance bt_isinstance (pa_cons (pv 4) (pa_cons (pe_bltn (v := .ty "ValueError") rfl T.b_ValueError bt_ValueError rfl) pa_nil))))) (pw_or1 (PW.pt (pw_and (pt_chain op_le op_lt pe_int (pv 0) pe_int) (pw_and1 (pt_cmpR op_ne (pe_xfE hz hf (pv 4)) (pv 2) (nomark _))))))))
      (pss_one (ps_ret pe_bl))
      pss_nil)))))
    (pss_one (ps_ret (pe_cmpR (Dat.eqDQ (K := K) rfl (hu64 hr)) (pv 3) (pe_lc (own := [("_law_k", 5)]) (g := (gName 5)) (tt := tYes) rfl sc__law_right.nd (pi_range1 rfl T.b_range (pa_cons pe_int pa_nil)) (blkOk_by (N := N__law_right) (sc := defScope s__law_right) (by decide +kernel)) (fun _ _ _ _ _ => (pg_name (i := 5) sc__law_right.nd rfl (Or.inl rfl))) (fun _ _ _ _ _ => pts_nil) (fun _ _ _ _ _ => (pe_cmpR op_eq (pv 5) (pv 0) (nomark _)))) (nomark _)))))), ?_⟩
  rintro as Ω Q ⟨k, t, z, rfl, hk, hz, h⟩
  refine s_seq (s_asg (e_lstD (a_nil ⟨_, .nil, rfl, ?_⟩)))
  refine s_seqM (fun Γ' Ω' => ∃ x y, Γ' = [some (.dat (.int ((k : Nat) : Int))), some (.dat (.str t)), some (.dat (.int z)), some (.dat (.list (marks k 0 28))), x, y] ∧ Ω' = Ω) ?_ ?_
  · refine s_tryY (tb := fun W => tSeq (tDrop (tCallS (spY K (spRaise T)) (WE W) (tCons (tVar 0) (tCons (tVar 1) tNil)))) (tSeq (tDrop (tCallS (spY K (spRaiseM T)) (WE W) (tCons (tVar 0) (tCons (tVar 1) tNil)))) (tDrop (tCallS (spY K (spRaiseL T)) (WE W) (tCons (tVar 0) (tCons (tVar 1) (tCons (tVar 2) tNil))))))) fun W2 => ?_
    refine sy_seq (sy_call (a_cons (e_var rfl (a_cons (e_var rfl (a_nil ⟨k, t, rfl, Nat.zero_le _, fun h13 => ?_, fun h13 => ?_⟩))))))
    · refine ⟨T.ex k hk, fun a d hn hs => ?_⟩
      refine s_seq (s_asg (e_op (e_op (e_callP (a_cons (e_var rfl (a_nil fun oe o1 o2 => ⟨k, none, _, rfl, hk, o2, o1, hn, ?_⟩)))))))
      refine e_callP (a_cons (e_var rfl (a_nil fun oe o1 o2 => ⟨k, none, _, rfl, hk, o2, o1, hn, ?_⟩)))
      refine r_catL ?_ ?_
      · simp
      refine e_callP (a_cons (e_var rfl (a_nil fun oe o1 o2 => ⟨k, none, _, rfl, hk, o2, o1, hn, ?_⟩)))
      refine r_catL ?_ ?_
      · simp
      rw [marks_all]
      refine s_if (t_or (t_not (t_test (e_cb (a_cons (e_var rfl (a_cons (e_ty (a_nil (c_isPT (T.ec k hk) (T.kv k hk) hn ⟨_, rfl, (fun e => by cases e), fun _ => ?_⟩))))))))))
      refine t_and (t_test (e_chain (e_int (e_var rfl (r_I0b ⟨_, rfl, fun c1 => ?_, fun c1 => ?_⟩)))))
      · exact absurd (of_decide_eq_true c1) (by omega)
      · exact ⟨false, rfl, (fun e => by cases e), fun _ => ⟨(fun e => by cases e), fun _ => s_next ⟨_, _, rfl, rfl⟩⟩⟩
    refine sy_seq (sy_call (a_cons (e_var rfl (a_cons (e_var rfl (a_nil ⟨k, t, rfl, h13, fun h24 => ?_, fun h24 => ?_⟩))))))
    · refine ⟨T.ex k hk, fun a d hn hs => ?_⟩
      refine s_seq (s_asg (e_op (e_op (e_callP (a_cons (e_var rfl (a_nil fun oe o1 o2 => ⟨k, none, _, rfl, hk, o2, o1, hn, ?_⟩)))))))
      refine e_callP (a_cons (e_var rfl (a_nil fun oe o1 o2 => ⟨k, none, _, rfl, hk, o2, o1, hn, ?_⟩)))
      refine r_catL ?_ ?_
      · simp
      refine e_callP (a_cons (e_var rfl (a_nil fun oe o1 o2 => ⟨k, none, _, rfl, hk, o2, o1, hn, ?_⟩)))
      refine r_catL ?_ ?_
      · simp
      rw [marks_all]
      refine s_if (t_or (t_not (t_test (e_cb (a_cons (e_var rfl (a_cons (e_ty (a_nil (c_isPT (T.ec k hk) (T.kv k hk) hn ⟨_, rfl, (fun e => by cases e), fun _ => ?_⟩))))))))))
      refine t_and (t_test (e_chain (e_int (e_var rfl (r_I0b ⟨_, rfl, fun c1 => ?_, fun c1 => ?_⟩)))))
      · exact absurd (of_decide_eq_true c1) (by omega)
      · exact ⟨false, rfl, (fun e => by cases e), fun _ => ⟨(fun e => by cases e), fun _ => s_next ⟨_, _, rfl, rfl⟩⟩⟩
    refine sy_call (a_cons (e_var rfl (a_cons (e_var rfl (a_cons (e_var rfl (a_nil ⟨k, t, z, rfl, h24, hk, hz, ?_⟩)))))))
    by_cases h28 : k < 28
    · rw [if_pos h28]
      refine ⟨T.ex k hk, fun a d hn hs => ?_⟩
      obtain ⟨dd, rfl⟩ := hs z rfl
      refine s_seq (s_asg (e_op (e_op (e_callP (a_cons (e_var rfl (a_nil fun oe o1 o2 => ⟨k, some z, _, rfl, hk, o2, o1, hn, ?_⟩)))))))
      refine e_callP (a_cons (e_var rfl (a_nil fun oe o1 o2 => ⟨k, some z, _, rfl, hk, o2, o1, hn, ?_⟩)))
      refine r_catL ?_ ?_
      · simp
      refine e_callP (a_cons (e_var rfl (a_nil fun oe o1 o2 => ⟨k, some z, _, rfl, hk, o2, o1, hn, ?_⟩)))
      refine r_catL ?_ ?_
      · simp
      rw [marks_all]
      refine s_if (t_or (t_not (t_test (e_cb (a_cons (e_var rfl (a_cons (e_ty (a_nil (c_isPT (T.ec k hk) (T.kv k hk) hn ⟨_, rfl, (fun e => by cases e), fun _ => ?_⟩))))))))))
      refine t_and (t_test (e_chain (e_int (e_var rfl (r_I0b ⟨_, rfl, fun c1 => ?_, fun c1 => ?_⟩)))))
      · refine e_int (r_I0b ⟨_, rfl, (fun _ => ?_), fun c2 => absurd (of_decide_eq_false c2) (by omega)⟩)
        refine t_test (e_op (e_xfE (T.xf k hk) (T.np k h24 h28) (e_var rfl ⟨rfl, e_var rfl (r_ne rfl ⟨_, rfl, ?_, fun _ => ?_⟩)⟩)))
        · intro e
          have : (!eqD (.int z) (.int z)) = true := e
          rw [show eqD (.int z) (.int z) = true from decide_eq_true rfl] at this
          cases this
        · exact s_next ⟨_, _, rfl, rfl⟩
      · exact absurd (of_decide_eq_false c1) (by omega)
    · rw [if_neg h28]
      refine ⟨T.ex k hk, fun a d hn hs => ?_⟩
      refine s_seq (s_asg (e_op (e_op (e_callP (a_cons (e_var rfl (a_nil fun oe o1 o2 => ⟨k, none, _, rfl, hk, o2, o1, hn, ?_⟩)))))))
      refine e_callP (a_cons (e_var rfl (a_nil fun oe o1 o2 => ⟨k, none, _, rfl, hk, o2, o1, hn, ?_⟩)))
      refine r_catL ?_ ?_
      · simp
      refine e_callP (a_cons (e_var rfl (a_nil fun oe o1 o2 => ⟨k, none, _, rfl, hk, o2, o1, hn, ?_⟩)))
      refine r_catL ?_ ?_
      · simp
      rw [marks_all]
      refine s_if (t_or (t_not (t_test (e_cb (a_cons (e_var rfl (a_cons (e_ty (a_nil (c_isPT (T.ec k hk) (T.kv k hk) hn ⟨_, rfl, (fun e => by cases e), fun _ => ?_⟩))))))))))
      refine t_and (t_test (e_chain (e_int (e_var rfl (r_I0b ⟨_, rfl, fun c1 => ?_, fun c1 => ?_⟩)))))
      · refine e_int (r_I0b ?_)
        rw [show decide (((k : Nat) : Int) < 28) = false from decide_eq_false (by omega)]
        exact ⟨false, rfl, (fun e => by cases e), fun _ => ⟨(fun e => by cases e), fun _ => s_next ⟨_, _, rfl, rfl⟩⟩⟩
      · exact absurd (of_decide_eq_false c1) (by omega)
  rintro Γ' Ω' ⟨x, y, rfl, rfl⟩
  refine s_ret (e_op (e_var rfl (e_lcM (List.range 28) (fun j => .dat (.int (0 + ((j : Nat) : Int)))) (fun j => .bool (j == k)) (gn_name (by decide)) (by decide) ?_)))
  refine i_rng1 (a_cons (e_int (a_nil ⟨28, rfl, ⟨by decide, by decide⟩, rfl, fun j Ω' hj _ => g_name ⟨rfl, ?_⟩, ?_⟩)))
  · refine e_op (e_var rfl (e_var rfl (r_eq rfl ⟨rfl, by rw [eq0]⟩)))
  · refine r_eqD (lay_marks.shaped (by decide)) (lay_marks.shaped (by decide)) ?_
    rw [show ((List.range 28).map fun j => PyData.bool (j == k)) = marks k 0 28 from rfl, show PyData.eqv (.list (marks k 0 28)) (.list (marks k 0 28)) = true from eqv_lay lay_marks]
    exact h
end
end K00

set_option Elab.async false
set_option linter.all false
set_option maxRecDepth 100000
set_option maxHeartbeats 1000000
namespace K00
open PySem PySem.Spec PyProof.Rows L2 Dat Exh
local macro_rules | `(tactic| trivial) => `(tactic| (first
  | (with_reducible refine s_seq ?_)
  | (with_reducible refine s_asg ?_)
  | (with_reducible refine s_ret ?_)
  | (with_reducible refine s_drop ?_)
  | (with_reducible refine s_next ?_)
  | (with_reducible refine s_retN ?_)
  | (with_reducible refine s_brk ?_)
  | (with_reducible refine s_cont ?_)
  | (with_reducible refine s_if ?_)
  | (with_reducible refine e_int ?_)
  | (with_reducible refine e_str ?_)
  | (with_reducible refine e_bl ?_)
  | (with_reducible refine e_non ?_)
  | (with_reducible refine e_ty ?_)
  | (with_reducible refine e_tupD ?_)
  | (with_reducible refine e_lstD ?_)
  | (with_reducible refine e_op ?_)
  | (with_reducible refine e_un ?_)
  | (with_reducible refine e_then ?_)
  | (with_reducible refine e_cb ?_)
  | (with_reducible refine e_call ?_)
  | (with_reducible refine e_if ?_)
  | (with_reducible refine e_chain ?_)
  | (with_reducible refine e_andV ?_)
  | (with_reducible refine e_orV ?_)
  | (with_reducible refine e_notV ?_)
  | (with_reducible refine a_cons ?_)
  | (with_reducible refine a_nil ?_)
  | (with_reducible refine t_test ?_)
  | (with_reducible refine t_B ?_)
  | (with_reducible refine t_not ?_)
  | (with_reducible refine t_and ?_)
  | (with_reducible refine t_or ?_)
  | (with_reducible refine r_I0i ?_)
  | (with_reducible refine r_I0b ?_)
  | (with_reducible refine r_neg ?_)
  | (with_reducible refine r_isN ?_)
  | (with_reducible refine r_notN ?_)
  | (with_reducible refine c_lenT ?_)
  | (with_reducible refine c_lenL ?_)
  | (with_reducible refine c_intI ?_)
  | (with_reducible refine c_intB ?_)
  | (with_reducible refine c_max2 ?_)
  | (with_reducible refine c_min2 ?_)
  | (with_reducible refine c_abs ?_)
  | (with_reducible refine r_tupL ?_)
  | (with_reducible refine r_tupT ?_)
  | (with_reducible refine c_allM ?_)
  | ((with_reducible apply e_var); (exact rfl))
  | ((with_reducible refine r_eq ?_ ?_); (exact rfl))
  | ((with_reducible refine r_ne ?_ ?_); (exact rfl))
  | (with_reducible refine c_isi kit_int ?_)
  | (with_reducible refine c_isi kit_bool ?_)
  | (with_reducible refine c_isi kit_tuple ?_)
  | (with_reducible refine c_isi kit_list ?_)
  | (with_reducible refine c_isi kit_str ?_)
  | ((with_reducible apply r_ixT); (exact rfl))
  | ((with_reducible apply dats_pack); (iterate 40 (first | exact Dats.nil | apply Dats.cons | skip)); (exact rfl))
  | (with_reducible refine s_asgG ?_) | (with_reducible refine g_name ?_) | ((with_reducible refine g_tup ?_ ?_); (exact rfl)) | (refine gs_nil ?_) | (refine gs_cons ?_) | (with_reducible refine ⟨rfl, ?_⟩)
  | (refine ⟨_, rfl, ?_⟩) | (refine ⟨_, _, rfl, ?_⟩) | (refine ⟨_, _, _, rfl, ?_⟩) | (with_reducible refine ⟨fun _ => ?_, fun _ => ?_⟩) | fail))
def SOk (s : Int) : Prop := 0 ≤ s ∧ s < 2 ^ 32
section
variable {P : Program} {w : World} {K : PySem.W.Frag} [Tb K] {mg : Str → Option Value} {base : Heap}
/-- a draw from the hand in a slot -/
theorem e_draw {Γ : List (Option Av)} {Ω0 : AH} {p : Addr} {sl : Nat} {ns : List Int} {i : Nat} {a s c : Int} {te : TE} {X : XK} {P : Av → AH → Prop} (hi : Γ[sl]? = some (some (.ptr p)))
    (h : EW K te Γ (put Ω0 p (handL ns i a s c)) fun z Ω1 => ∃ m i1 a1 s1 c1, z = .dat (.int m) ∧ Ω1 = put Ω0 p (handL ns i1 a1 s1 c1) ∧ SOk s1 ∧ 1 ≤ m ∧ m ≤ 2000001 ∧ ∀ v i' a' s' c', SOk s' → 0 ≤ v → v < m → P (.dat (.int v)) (put Ω0 p (handL ns i' a' s' c'))) :
    EW K (tCall (spA K spDraw) [] X (tCons (tVar sl) (tCons te tNil))) Γ (put Ω0 p (handL ns i a s c)) P :=
  e_call (a_cons (e_var hi (a_cons (h.mono fun z Ω1 ⟨m, i1, a1, s1, c1, e1, e2, hs, m1, m2, q⟩ => a_nil ⟨Ω0, p, m, ns, i1, a1, s1, c1, by rw [e1], e2, hs, m1, m2, q⟩))))
theorem e_drawN {Γ : List (Option Av)} {Ω0 : AH} {p : Addr} {sl : Nat} {ns : List Int} {i : Nat} {m a s c : Int} {X : XK} {P : Av → AH → Prop} (hi : Γ[sl]? = some (some (.ptr p))) (hs : SOk s) (m1 : 1 ≤ m) (m2 : m ≤ 2000001)
    (h : ∀ v i' a' s' c', SOk s' → 0 ≤ v → v < m → P (.dat (.int v)) (put Ω0 p (handL ns i' a' s' c'))) :
    EW K (tCall (spA K spDraw) [] X (tCons (tVar sl) (tCons (tC (.int m)) tNil))) Γ (put Ω0 p (handL ns i a s c)) P :=
  e_draw hi (e_int ⟨m, i, a, s, c, rfl, rfl, hs, m1, m2, h⟩)
theorem e_drawV {Γ : List (Option Av)} {Ω0 : AH} {p : Addr} {sl j : Nat} {ns : List Int} {i : Nat} {m a s c : Int} {X : XK} {P : Av → AH → Prop} (hi : Γ[sl]? = some (some (.ptr p))) (hj : Γ[j]? = some (some (.dat (.int m)))) (hs : SOk s) (m1 : 1 ≤ m) (m2 : m ≤ 2000001)
    (h : ∀ v i' a' s' c', SOk s' → 0 ≤ v → v < m → P (.dat (.int v)) (put Ω0 p (handL ns i' a' s' c'))) :
    EW K (tCall (spA K spDraw) [] X (tCons (tVar sl) (tCons (tVar j) tNil))) Γ (put Ω0 p (handL ns i a s c)) P :=
  e_draw hi (e_var hj ⟨m, i, a, s, c, rfl, rfl, hs, m1, m2, h⟩)
theorem e_mkPl {Γ : List (Option Av)} {Ω : AH} {tl : TA} {P : Av → AH → Prop} (h : AW K tl Γ Ω fun as Ω1 => ∃ i : Int, as = [.dat (.int i)] ∧ i.natAbs.log2 < 1920 ∧ P (.dat (.int i)) Ω1) : EW K (tMkPl tl) Γ Ω P := fun F σ H Q k q =>
  h F σ H _ k fun as vs Ω1 H1 ⟨z, ea, hz, h1⟩ k1 v1 => by
    subst ea
    cases v1 with
    | cons v1 r1 =>
      cases r1
      cases v1 with
      | dat v1 =>
        cases v1
        exact ⟨z, rfl, hz, q _ _ _ _ h1 k1 (.dat (.int z))⟩
theorem lay_2 {z : Int} : Lay (.list [.int z, .int z]) 1 := Lay.lst fun d hd => by
  simp only [List.mem_cons, List.not_mem_nil, or_false] at hd
  rcases hd with rfl | rfl <;> exact Lay.int z
theorem ne_2 {z : Int} (e : (!PyData.eqv (.list [.int z, .int z]) (.list [.int z, .int z])) = true) : False := by
  rw [eqv_lay lay_2] at e
  cases e
abbrev spLawA : ASp := fun as Ω P => ∃ ns : List Int, as = [.scr ns] ∧ ns.length ≤ 63 ∧ ∀ Ω', P (.dat (.bool true)) Ω'
theorem ok_law (T : Top P K mg) {f : Addr} {fd : FuncData} (F : L2.Fun K "law" "law" s_law f fd) : FnOk P w K mg base CX0 7 f fd ["_law_script"] (spA K spLawA) := by
  have G__law_hand : FnOk P w K mg base CX0 1 T.f__law_hand T.d__law_hand ["_law_script"] (spA K spHand) := ok_hand T
  have G__law_draw : FnOk P w K mg base CX0 2 T.f__law_draw T.d__law_draw ["_law_hand_here", "_law_size"] (spA K spDraw) := ok_draw T
  have G__law_right : FnOk P w K mg base CX0 5 T.f__law_right T.d__law_right ["_law_kind", "_law_text", "_law_spot"] (spA K spRight) := ok_law_right T
  refine fnA_ok F sc_law (fun as Ω P ⟨ns, e, _⟩ => by subst e; rfl) (fun cdv A outer s H E hr => ?_)
  refine ⟨_, (pss_cons (ps_set (i := 1) sc_law.nd rfl (.inl rfl) (pe_call G__law_hand (hr.mono (by omega)) rfl T.D__law_hand.g T.D__law_hand.F.kp T.D__law_hand.b .nil pass0 (pa_cons (pv 0) pa_nil)))
    (pss_cons (ps_set (i := 2) sc_law.nd rfl (.inr rfl) (pe_ix (Dat.ixL (K := K) rfl) (pe_lst (pa_cons pe_str (pa_cons pe_str (pa_cons pe_str (pa_cons pe_str pa_nil))))) (pe_call G__law_draw (hr.mono (by omega)) rfl T.D__law_draw.g T.D__law_draw.F.kp T.D__law_draw.b .nil pass0 (pa_cons (pv 1) (pa_cons pe_int pa_nil))) (fun _ _ => rfl)))
    (pss_cons (ps_set (i := 3) sc_law.nd rfl (.inr rfl) (pe_op op_sub (pe_call G__law_draw (hr.mono (by omega)) rfl T.D__law_draw.g T.D__law_draw.F.kp T.D__law_draw.b .nil pass0 (pa_cons (pv 1) (pa_cons (pe_op op_pow pe_int pe_int) pa_nil))) pe_int))
    (pss_cons (ps_if (pt_cmpR (Dat.neDQ (K := K) rfl (hu64 hr)) (pe_lst (pa_cons (pe_mkPl (k := 0) T.Y_BadWalk (T.xf 24 (by decide)) (hr.mono (by omega)) (pk_cons (pv 3) pk_nil) rfl) (pa_cons (pe_mkPl (k := 0) T.Y_BadRow (T.xf 25 (by decide)) (hr.mono (by omega)) (pk_cons (pv 3) pk_nil) rfl) pa_nil))) (pe_lst (pa_cons (pv 3) (pa_cons (pv 3) pa_nil))) (nomark _))
      (pss_one (ps_ret pe_bl))
      pss_nil)
    (pss_cons (ps_if (pt_cmpR (Dat.neDQ (K := K) rfl (hu64 hr)) (pe_lst (pa_cons (pe_mkPl (k := 0) T.Y_BadAsking (T.xf 26 (by decide)) (hr.mono (by omega)) (pk_cons (pv 3) pk_nil) rfl) (pa_cons (pe_mkPl (k := 0) T.Y_BadText (T.xf 27 (by decide)) (hr.mono (by omega)) (pk_cons (pv 3) pk_nil) rfl) pa_nil))) (pe_lst (pa_cons (pv 3) (pa_cons (pv 3) pa_nil))) (nomark _))
      (pss_one (ps_ret pe_bl))
      pss_nil)
    (pss_one (ps_ret (pe_callB (Dat.allQ (K := K) rfl rfl) rfl T.b_all bt_all (pa_cons (pe_lc (own := [("_law_kind", 4)]) (g := (gName 4)) (tt := tYes) rfl sc_law.nd (pi_range1 rfl T.b_range (pa_cons pe_int pa_nil)) (blkOk_by (N := N_law) (sc := defScope s_law) (by decide +kernel)) (fun _ _ _ _ _ => (pg_name (i := 4) sc_law.nd rfl (Or.inl rfl))) (fun _ _ _ _ _ => pts_nil) (fun _ _ _ _ _ => (pe_call G__law_right (hr.mono (by omega)) rfl T.D__law_right.g T.D__law_right.F.kp T.D__law_right.b .nil pass0 (pa_cons (pv 4) (pa_cons (pv 2) (pa_cons (pv 3) pa_nil)))))) pa_nil))))))))), ?_⟩
  rintro as Ω0 P ⟨ns, rfl, hl, h⟩
  refine s_seq (s_asg (e_call (a_cons (e_var rfl (a_nil ⟨ns, rfl, fun p p0 => ?_⟩)))))
  have hs0 : SOk 0 := ⟨by decide, by decide⟩
  refine s_seqM (fun Γ' Ω' => ∃ (t : Str) (i : Nat) (a s c : Int), SOk s ∧ Γ' = [some (.scr ns), some (.ptr p), some (.dat (.str t)), none, none] ∧ Ω' = put Ω0 p (handL ns i a s c)) ?_ ?_
  · refine s_asg (e_op (e_lstD (a_cons (e_str (a_cons (e_str (a_cons (e_str (a_cons (e_str (a_nil ⟨_, .cons (.cons (.cons (.cons .nil))), rfl, ?_⟩)))))))))))
    refine e_drawN rfl hs0 (by decide) (by decide) fun v i a s c hs v0 v1 => ?_
    refine r_ixL_any v0 v1 fun d hd => ?_
    simp only [List.mem_cons, List.not_mem_nil, or_false] at hd
    rcases hd with rfl | rfl | rfl | rfl <;> exact ⟨_, i, a, s, c, hs, rfl, rfl⟩
  rintro Γ' Ω' ⟨t, i, a, s, c, hs, rfl, rfl⟩
  have e6 : (10 : Int) ^ (6 : Int).toNat = 1000000 := by decide
  refine s_seq (s_asg (e_op (e_draw rfl (e_op (e_int (e_int (r_Ii (by exact ⟨by decide, by decide, by decide⟩) ⟨_, i, a, s, c, rfl, rfl, hs, by rw [e6]; decide, by rw [e6]; decide, fun v i a s c hs v0 v1 => ?_⟩)))))))
  refine e_int (r_I0i ?_)
  rw [e6] at v1
  obtain ⟨z, ez⟩ : ∃ z : Int, z = v - 1 := ⟨_, rfl⟩
  rw [← ez]
  have hz : z.natAbs.log2 < 1920 := by
    have h1 : z.natAbs < 2 ^ 20 := by
      have : (2 : Nat) ^ 20 = 1048576 := by decide
      omega
    rcases Nat.eq_zero_or_pos z.natAbs with h0 | h0
    · rw [h0]
      decide
    · have := (Nat.log2_lt (by omega)).mpr h1
      omega
  refine s_seq (s_if (t_test (e_op (e_lstD (a_cons (e_mkPl (a_cons (e_var rfl (a_nil ⟨z, rfl, hz, ?_⟩)))))))))
  refine a_cons (e_mkPl (a_cons (e_var rfl (a_nil ⟨z, rfl, hz, a_nil ⟨_, .cons (.cons .nil), rfl, ?_⟩⟩))))
  refine e_lstD (a_cons (e_var rfl (a_cons (e_var rfl (a_nil ⟨_, .cons (.cons .nil), rfl, ?_⟩)))))
  refine r_neD (lay_2.shaped (by decide)) (lay_2.shaped (by decide)) ⟨_, rfl, (fun e => (ne_2 e).elim), fun _ => s_next ?_⟩
  refine s_seq (s_if (t_test (e_op (e_lstD (a_cons (e_mkPl (a_cons (e_var rfl (a_nil ⟨z, rfl, hz, ?_⟩)))))))))
  refine a_cons (e_mkPl (a_cons (e_var rfl (a_nil ⟨z, rfl, hz, a_nil ⟨_, .cons (.cons .nil), rfl, ?_⟩⟩))))
  refine e_lstD (a_cons (e_var rfl (a_cons (e_var rfl (a_nil ⟨_, .cons (.cons .nil), rfl, ?_⟩)))))
  refine r_neD (lay_2.shaped (by decide)) (lay_2.shaped (by decide)) ⟨_, rfl, (fun e => (ne_2 e).elim), fun _ => s_next ?_⟩
  refine s_ret (e_cb (a_cons (e_lcM (List.range 29) (fun j => .dat (.int (0 + ((j : Nat) : Int)))) (fun _ => .bool true) (gn_name (by decide)) (by decide) ?_)))
  refine i_rng1 (a_cons (e_int (a_nil ⟨29, rfl, ⟨by decide, by decide⟩, rfl, fun j Ω' hj _ => g_name ⟨rfl, ?_⟩, ?_⟩)))
  · refine e_call (a_cons (e_var rfl (a_cons (e_var rfl (a_cons (e_var rfl (a_nil ⟨j, t, z, by rw [Int.zero_add], List.mem_range.mp hj, hz, rfl, rfl⟩)))))))
  · refine a_nil (c_allM ?_)
    rw [show (List.range 29).all (fun _ => true) = true from by decide]
    exact h _
/-- the law's own promise, from a plain list of the script -/
theorem spLaw_of (hT : Tb.T (K := K) = []) {H : Hp} {a : Addr} {ns : List Int} (hl : ns.length ≤ 63) (hS : SqL K H a (ns.map V.int)) : spA K spLawA [.ref a] H (fun v _ => v = .bl true) fun _ _ _ => False := by
  have of0 : ∀ b, AH0.Off b := fun b => ⟨rfl, rfl⟩
  have hS' : SqL K (Fz AH0 H) a (ns.map V.int) := by
    rcases hS with (h | ⟨o, h⟩) | h
    · exact .inl (.inl (Fz_to (of0 _) h fun q z => nomatch z))
    · exact .inl (.inr ⟨o, Fz_to (of0 _) h fun q z => nomatch z⟩)
    · exact .inr h
  refine ⟨Fz AH0 H, AH0, [.scr ns], fun x _ => x = .dat (.bool true), ⟨Same.refl _, fun p as z => (by cases z), .nil, by rw [hT]; exact (fun p hp => by cases hp), fun p u z => (by cases z)⟩, .cons (.scr hS') .nil, ⟨ns, rfl, hl, fun _ => rfl⟩, fun x v Ω' H' hx _ hv => ?_⟩
  subst hx
  cases hv with | dat hv =>
    cases hv
    rfl
end
end K00

set_option Elab.async false
set_option linter.all false
set_option maxRecDepth 100000
set_option maxHeartbeats 4000000
namespace K00
open PySem PySem.Spec PyProof.Rows L2 Dat Exh
theorem fng_of {P : Program} {w : World} {K : PySem.W.Frag} {mg : Str → Option Value} {base : Heap} {k : Nat} {f : Addr} {fd : FuncData} {ps : List Str} {sp : Sp} (F : FnOk P w K mg base CX0 k f fd ps sp) : Grd.FnG P w K mg base CX0 k f fd ps sp :=
  ⟨F.len, fun A outer s H args us vs Q E hr _ e0 hb r h => F.run A outer s H args us vs Q E hr e0 hb r h⟩
def pairsB (K : PySem.W.Frag) (xs : List Addr) : Bool := (List.range 29).all fun i => (List.range 28).all fun j => decide (PySem.W.kitOne K (.ref (cl xs i)) (.ref (cl xs j)) = some (j == i))
def valsB (K : PySem.W.Frag) (xs : List Addr) : Bool := (List.range 29).all fun i => decide (PySem.W.kitOne K (.ref (cl xs i)) (.type "ValueError") = some true) && decide (PySem.W.exmOne K (.ref (cl xs i)) (.ref (cl xs 28)) = some true)
def askB (K : PySem.W.Frag) (D : Addr) : Bool := decide (PySem.W.findIn K (.ref D) "__getattribute__" = some (some (.builtin "BaseException.__getattribute__"))) && (decide (PySem.W.findIn K (.ref D) "__getattr__" = some none) && (decide (PySem.W.subIn K (.ref D) (.type "BaseException") = some true) && (PySem.W.hasDictIn K D &&
  (decide (PySem.W.findIn K (.ref D) "__class__" = some (some (.builtin "object.__class__"))) && (decide (PySem.W.specialIn K (.builtin "object.__class__") "__get__" = some (some (.builtin "getset_descriptor.__get__"))) && (decide (PySem.W.takesIn K (.builtin "object.__class__") = some true) && decide (PySem.W.mroIn K D (.type "object") = some true)))))))
def asksB (K : PySem.W.Frag) (xs : List Addr) : Bool := (List.range 29).all fun i => askB K (cl xs i)
theorem all_at {p : Nat → Bool} {n : Nat} (h : (List.range n).all p = true) {i : Nat} (hi : i < n) : p i = true := List.all_eq_true.mp h i (List.mem_range.mpr hi)
theorem pairs_at {K : PySem.W.Frag} {xs : List Addr} (h : pairsB K xs = true) : ∀ i < 29, ∀ j < 28, PySem.W.kitOne K (.ref (cl xs i)) (.ref (cl xs j)) = some (j == i) := fun i hi j hj => of_decide_eq_true (all_at (all_at h hi) hj)
theorem vals_at {K : PySem.W.Frag} {xs : List Addr} (h : valsB K xs = true) {i : Nat} (hi : i < 29) : PySem.W.kitOne K (.ref (cl xs i)) (.type "ValueError") = some true ∧ PySem.W.exmOne K (.ref (cl xs i)) (.ref (cl xs 28)) = some true := by
  have := Bool.and_eq_true_iff.mp (all_at h hi)
  exact ⟨of_decide_eq_true this.1, of_decide_eq_true this.2⟩
theorem ask_at {K : PySem.W.Frag} {D : Addr} (h : askB K D = true) : ExcC K D ∧ XfC K D := by
  obtain ⟨h1, h⟩ := Bool.and_eq_true_iff.mp h
  obtain ⟨h2, h⟩ := Bool.and_eq_true_iff.mp h
  obtain ⟨h3, h⟩ := Bool.and_eq_true_iff.mp h
  obtain ⟨h4, h⟩ := Bool.and_eq_true_iff.mp h
  obtain ⟨h5, h⟩ := Bool.and_eq_true_iff.mp h
  obtain ⟨h6, h⟩ := Bool.and_eq_true_iff.mp h
  obtain ⟨h7, h8⟩ := Bool.and_eq_true_iff.mp h
  exact ⟨⟨of_decide_eq_true h1, of_decide_eq_true h2, of_decide_eq_true h3, h4, of_decide_eq_true h5, of_decide_eq_true h6, of_decide_eq_true h7, of_decide_eq_true h8⟩, ⟨of_decide_eq_true h1, of_decide_eq_true h2, of_decide_eq_true h3, h4⟩⟩
theorem defAt_mk {h : Heap} {K : PySem.W.Frag} {mg : Str → Option Value} {x : Str} {st : Stmt} {ps : List Str} {f : Addr} {oc : Value} {od an : Option Addr} {osl : Array (Option Value)} {kV doc pm cdv ct : Value} (X : K.In h) (G : h.Ns mainGlobals mg)
    (a : PySem.W.nsIn K mainGlobals x = some (some (.ref f))) (l : K.lookup f = some ⟨oc, od, .func (PySem.W.fnOf x x (defArgs st) (defBody st) (defScope st) .none kV doc pm an cdv ct), osl⟩) (c : PySem.W.codeIn K cdv x = true) (k : PySem.W.keepIn K (.ref f) = true)
    (hb : ∀ (kV doc pm : Value) (an : Option Addr) (cdv ct : Value) (us : List Value), us.length = ps.length → bindArgs (PySem.W.fnOf x x (defArgs st) (defBody st) (defScope st) .none kV doc pm an cdv ct) ⟨us, []⟩ = pure (ps.zip us)) :
    DefAt K mg x st ps [] f (PySem.W.fnOf x x (defArgs st) (defBody st) (defScope st) .none kV doc pm an cdv ct) :=
  ⟨fun_mk l c k, PySem.W.mg_of X G a, (fun_mk l c k).binds hb⟩
theorem all_mk {l : PySem.W.OpenLaw} {w : World} {K : PySem.W.Frag} {h : Heap} {mg : Str → Option Value} {fa : Addr} (X : K.In h) (G : h.Ns mainGlobals mg) (hfa : mg "law" = some (.ref fa))
    {f__law_hand : Addr} {oc__law_hand : Value} {od__law_hand an__law_hand : Option Addr} {sl__law_hand : Array (Option Value)} {kV__law_hand dc__law_hand pm__law_hand cd__law_hand ct__law_hand : Value}
    (a__law_hand : PySem.W.nsIn K mainGlobals "_law_hand" = some (some (.ref f__law_hand))) (l__law_hand : K.lookup f__law_hand = some ⟨oc__law_hand, od__law_hand, .func (PySem.W.fnOf "_law_hand" "_law_hand" (defArgs s__law_hand) (defBody s__law_hand) (defScope s__law_hand) .none kV__law_hand dc__law_hand pm__law_hand an__law_hand cd__law_hand ct__law_hand), sl__law_hand⟩) (c__law_hand : PySem.W.codeIn K cd__law_hand "_law_hand" = true) (k__law_hand : PySem.W.keepIn K (.ref f__law_hand) = true)
    {f__law_draw : Addr} {oc__law_draw : Value} {od__law_draw an__law_draw : Option Addr} {sl__law_draw : Array (Option Value)} {kV__law_draw dc__law_draw pm__law_draw cd__law_draw ct__law_draw : Value}
    (a__law_draw : PySem.W.nsIn K mainGlobals "_law_draw" = some (some (.ref f__law_draw))) (l__law_draw : K.lookup f__law_draw = some ⟨oc__law_draw, od__law_draw, .func (PySem.W.fnOf "_law_draw" "_law_draw" (defArgs s__law_draw) (defBody s__law_draw) (defScope s__law_draw) .none kV__law_draw dc__law_draw pm__law_draw an__law_draw cd__law_draw ct__law_draw), sl__law_draw⟩) (c__law_draw : PySem.W.codeIn K cd__law_draw "_law_draw" = true) (k__law_draw : PySem.W.keepIn K (.ref f__law_draw) = true)
    {f__law_raise : Addr} {oc__law_raise : Value} {od__law_raise an__law_raise : Option Addr} {sl__law_raise : Array (Option Value)} {kV__law_raise dc__law_raise pm__law_raise cd__law_raise ct__law_raise : Value}
    (a__law_raise : PySem.W.nsIn K mainGlobals "_law_raise" = some (some (.ref f__law_raise))) (l__law_raise : K.lookup f__law_raise = some ⟨oc__law_raise, od__law_raise, .func (PySem.W.fnOf "_law_raise" "_law_raise" (defArgs s__law_raise) (defBody s__law_raise) (defScope s__law_raise) .none kV__law_raise dc__law_raise pm__law_raise an__law_raise cd__law_raise ct__law_raise), sl__law_raise⟩) (c__law_raise : PySem.W.codeIn K cd__law_raise "_law_raise" = true) (k__law_raise : PySem.W.keepIn K (.ref f__law_raise) = true)
    {f__law_raise_more : Addr} {oc__law_raise_more : Value} {od__law_raise_more an__law_raise_more : Option Addr} {sl__law_raise_more : Array (Option Value)} {kV__law_raise_more dc__law_raise_more pm__law_raise_more cd__law_raise_more ct__law_raise_more : Value}
    (a__law_raise_more : PySem.W.nsIn K mainGlobals "_law_raise_more" = some (some (.ref f__law_raise_more))) (l__law_raise_more : K.lookup f__law_raise_more = some ⟨oc__law_raise_more, od__law_raise_more, .func (PySem.W.fnOf "_law_raise_more" "_law_raise_more" (defArgs s__law_raise_more) (defBody s__law_raise_more) (defScope s__law_raise_more) .none kV__law_raise_more dc__law_raise_more pm__law_raise_more an__law_raise_more cd__law_raise_more ct__law_raise_more), sl__law_raise_more⟩) (c__law_raise_more : PySem.W.codeIn K cd__law_raise_more "_law_raise_more" = true) (k__law_raise_more : PySem.W.keepIn K (.ref f__law_raise_more) = true)
    {f__law_raise_last : Addr} {oc__law_raise_last : Value} {od__law_raise_last an__law_raise_last : Option Addr} {sl__law_raise_last : Array (Option Value)} {kV__law_raise_last dc__law_raise_last pm__law_raise_last cd__law_raise_last ct__law_raise_last : Value}
    (a__law_raise_last : PySem.W.nsIn K mainGlobals "_law_raise_last" = some (some (.ref f__law_raise_last))) (l__law_raise_last : K.lookup f__law_raise_last = some ⟨oc__law_raise_last, od__law_raise_last, .func (PySem.W.fnOf "_law_raise_last" "_law_raise_last" (defArgs s__law_raise_last) (defBody s__law_raise_last) (defScope s__law_raise_last) .none kV__law_raise_last dc__law_raise_last pm__law_raise_last an__law_raise_last cd__law_raise_last ct__law_raise_last), sl__law_raise_last⟩) (c__law_raise_last : PySem.W.codeIn K cd__law_raise_last "_law_raise_last" = true) (k__law_raise_last : PySem.W.keepIn K (.ref f__law_raise_last) = true)
    {f__law_marks : Addr} {oc__law_marks : Value} {od__law_marks an__law_marks : Option Addr} {sl__law_marks : Array (Option Value)} {kV__law_marks dc__law_marks pm__law_marks cd__law_marks ct__law_marks : Value}
    (a__law_marks : PySem.W.nsIn K mainGlobals "_law_marks" = some (some (.ref f__law_marks))) (l__law_marks : K.lookup f__law_marks = some ⟨oc__law_marks, od__law_marks, .func (PySem.W.fnOf "_law_marks" "_law_marks" (defArgs s__law_marks) (defBody s__law_marks) (defScope s__law_marks) .none kV__law_marks dc__law_marks pm__law_marks an__law_marks cd__law_marks ct__law_marks), sl__law_marks⟩) (c__law_marks : PySem.W.codeIn K cd__law_marks "_law_marks" = true) (k__law_marks : PySem.W.keepIn K (.ref f__law_marks) = true)
    {f__law_more_marks : Addr} {oc__law_more_marks : Value} {od__law_more_marks an__law_more_marks : Option Addr} {sl__law_more_marks : Array (Option Value)} {kV__law_more_marks dc__law_more_marks pm__law_more_marks cd__law_more_marks ct__law_more_marks : Value}
    (a__law_more_marks : PySem.W.nsIn K mainGlobals "_law_more_marks" = some (some (.ref f__law_more_marks))) (l__law_more_marks : K.lookup f__law_more_marks = some ⟨oc__law_more_marks, od__law_more_marks, .func (PySem.W.fnOf "_law_more_marks" "_law_more_marks" (defArgs s__law_more_marks) (defBody s__law_more_marks) (defScope s__law_more_marks) .none kV__law_more_marks dc__law_more_marks pm__law_more_marks an__law_more_marks cd__law_more_marks ct__law_more_marks), sl__law_more_marks⟩) (c__law_more_marks : PySem.W.codeIn K cd__law_more_marks "_law_more_marks" = true) (k__law_more_marks : PySem.W.keepIn K (.ref f__law_more_marks) = true)
    {f__law_last_marks : Addr} {oc__law_last_marks : Value} {od__law_last_marks an__law_last_marks : Option Addr} {sl__law_last_marks : Array (Option Value)} {kV__law_last_marks dc__law_last_marks pm__law_last_marks cd__law_last_marks ct__law_last_marks : Value}
    (a__law_last_marks : PySem.W.nsIn K mainGlobals "_law_last_marks" = some (some (.ref f__law_last_marks))) (l__law_last_marks : K.lookup f__law_last_marks = some ⟨oc__law_last_marks, od__law_last_marks, .func (PySem.W.fnOf "_law_last_marks" "_law_last_marks" (defArgs s__law_last_marks) (defBody s__law_last_marks) (defScope s__law_last_marks) .none kV__law_last_marks dc__law_last_marks pm__law_last_marks an__law_last_marks cd__law_last_marks ct__law_last_marks), sl__law_last_marks⟩) (c__law_last_marks : PySem.W.codeIn K cd__law_last_marks "_law_last_marks" = true) (k__law_last_marks : PySem.W.keepIn K (.ref f__law_last_marks) = true)
    {f__law_right : Addr} {oc__law_right : Value} {od__law_right an__law_right : Option Addr} {sl__law_right : Array (Option Value)} {kV__law_right dc__law_right pm__law_right cd__law_right ct__law_right : Value}
    (a__law_right : PySem.W.nsIn K mainGlobals "_law_right" = some (some (.ref f__law_right))) (l__law_right : K.lookup f__law_right = some ⟨oc__law_right, od__law_right, .func (PySem.W.fnOf "_law_right" "_law_right" (defArgs s__law_right) (defBody s__law_right) (defScope s__law_right) .none kV__law_right dc__law_right pm__law_right an__law_right cd__law_right ct__law_right), sl__law_right⟩) (c__law_right : PySem.W.codeIn K cd__law_right "_law_right" = true) (k__law_right : PySem.W.keepIn K (.ref f__law_right) = true)
    {f_law : Addr} {oc_law : Value} {od_law an_law : Option Addr} {sl_law : Array (Option Value)} {kV_law dc_law pm_law cd_law ct_law : Value}
    (a_law : PySem.W.nsIn K mainGlobals "law" = some (some (.ref f_law))) (l_law : K.lookup f_law = some ⟨oc_law, od_law, .func (PySem.W.fnOf "law" "law" (defArgs s_law) (defBody s_law) (defScope s_law) .none kV_law dc_law pm_law an_law cd_law ct_law), sl_law⟩) (c_law : PySem.W.codeIn K cd_law "law" = true) (k_law : PySem.W.keepIn K (.ref f_law) = true)
    (z_len : PySem.W.nsIn K mainGlobals "len" = some none)
    (z_isinstance : PySem.W.nsIn K mainGlobals "isinstance" = some none)
    (z_abs : PySem.W.nsIn K mainGlobals "abs" = some none)
    (z_all : PySem.W.nsIn K mainGlobals "all" = some none)
    (z_int : PySem.W.nsIn K mainGlobals "int" = some none)
    (z_list : PySem.W.nsIn K mainGlobals "list" = some none)
    (z_range : PySem.W.nsIn K mainGlobals "range" = some none)
    {x_BadWeb : Addr}
    (gx_BadWeb : PySem.W.nsIn K mainGlobals "BadWeb" = some (some (.ref x_BadWeb)))
    (q1_BadWeb : PySem.W.excIn K x_BadWeb PySem.HandSPX.veTail "ValueError.__new__" = true)
    (q2_BadWeb : PySem.W.keepIn K (.ref x_BadWeb) = true)
    (q3_BadWeb : PySem.W.subIn K (.ref x_BadWeb) (.type "BaseException") = some true)
    (q4_BadWeb : PySem.W.typeIn K (.ref x_BadWeb) = some (.type "type"))
    {x_BadFraction : Addr}
    (gx_BadFraction : PySem.W.nsIn K mainGlobals "BadFraction" = some (some (.ref x_BadFraction)))
    (q1_BadFraction : PySem.W.excIn K x_BadFraction PySem.HandSPX.veTail "ValueError.__new__" = true)
    (q2_BadFraction : PySem.W.keepIn K (.ref x_BadFraction) = true)
    (q3_BadFraction : PySem.W.subIn K (.ref x_BadFraction) (.type "BaseException") = some true)
    (q4_BadFraction : PySem.W.typeIn K (.ref x_BadFraction) = some (.type "type"))
    {x_BadCount : Addr}
    (gx_BadCount : PySem.W.nsIn K mainGlobals "BadCount" = some (some (.ref x_BadCount)))
    (q1_BadCount : PySem.W.excIn K x_BadCount PySem.HandSPX.veTail "ValueError.__new__" = true)
    (q2_BadCount : PySem.W.keepIn K (.ref x_BadCount) = true)
    (q3_BadCount : PySem.W.subIn K (.ref x_BadCount) (.type "BaseException") = some true)
    (q4_BadCount : PySem.W.typeIn K (.ref x_BadCount) = some (.type "type"))
    {x_BadGame : Addr}
    (gx_BadGame : PySem.W.nsIn K mainGlobals "BadGame" = some (some (.ref x_BadGame)))
    (q1_BadGame : PySem.W.excIn K x_BadGame PySem.HandSPX.veTail "ValueError.__new__" = true)
    (q2_BadGame : PySem.W.keepIn K (.ref x_BadGame) = true)
    (q3_BadGame : PySem.W.subIn K (.ref x_BadGame) (.type "BaseException") = some true)
    (q4_BadGame : PySem.W.typeIn K (.ref x_BadGame) = some (.type "type"))
    {x_BadWay : Addr}
    (gx_BadWay : PySem.W.nsIn K mainGlobals "BadWay" = some (some (.ref x_BadWay)))
    (q1_BadWay : PySem.W.excIn K x_BadWay PySem.HandSPX.veTail "ValueError.__new__" = true)
    (q2_BadWay : PySem.W.keepIn K (.ref x_BadWay) = true)
    (q3_BadWay : PySem.W.subIn K (.ref x_BadWay) (.type "BaseException") = some true)
    (q4_BadWay : PySem.W.typeIn K (.ref x_BadWay) = some (.type "type"))
    {x_BadOwner : Addr}
    (gx_BadOwner : PySem.W.nsIn K mainGlobals "BadOwner" = some (some (.ref x_BadOwner)))
    (q1_BadOwner : PySem.W.excIn K x_BadOwner PySem.HandSPX.veTail "ValueError.__new__" = true)
    (q2_BadOwner : PySem.W.keepIn K (.ref x_BadOwner) = true)
    (q3_BadOwner : PySem.W.subIn K (.ref x_BadOwner) (.type "BaseException") = some true)
    (q4_BadOwner : PySem.W.typeIn K (.ref x_BadOwner) = some (.type "type"))
    {x_BadSetup : Addr}
    (gx_BadSetup : PySem.W.nsIn K mainGlobals "BadSetup" = some (some (.ref x_BadSetup)))
    (q1_BadSetup : PySem.W.excIn K x_BadSetup PySem.HandSPX.veTail "ValueError.__new__" = true)
    (q2_BadSetup : PySem.W.keepIn K (.ref x_BadSetup) = true)
    (q3_BadSetup : PySem.W.subIn K (.ref x_BadSetup) (.type "BaseException") = some true)
    (q4_BadSetup : PySem.W.typeIn K (.ref x_BadSetup) = some (.type "type"))
    {x_BadSeats : Addr}
    (gx_BadSeats : PySem.W.nsIn K mainGlobals "BadSeats" = some (some (.ref x_BadSeats)))
    (q1_BadSeats : PySem.W.excIn K x_BadSeats PySem.HandSPX.veTail "ValueError.__new__" = true)
    (q2_BadSeats : PySem.W.keepIn K (.ref x_BadSeats) = true)
    (q3_BadSeats : PySem.W.subIn K (.ref x_BadSeats) (.type "BaseException") = some true)
    (q4_BadSeats : PySem.W.typeIn K (.ref x_BadSeats) = some (.type "type"))
    {x_NotDeaf : Addr}
    (gx_NotDeaf : PySem.W.nsIn K mainGlobals "NotDeaf" = some (some (.ref x_NotDeaf)))
    (q1_NotDeaf : PySem.W.excIn K x_NotDeaf PySem.HandSPX.veTail "ValueError.__new__" = true)
    (q2_NotDeaf : PySem.W.keepIn K (.ref x_NotDeaf) = true)
    (q3_NotDeaf : PySem.W.subIn K (.ref x_NotDeaf) (.type "BaseException") = some true)
    (q4_NotDeaf : PySem.W.typeIn K (.ref x_NotDeaf) = some (.type "type"))
    {x_BadWhat : Addr}
    (gx_BadWhat : PySem.W.nsIn K mainGlobals "BadWhat" = some (some (.ref x_BadWhat)))
    (q1_BadWhat : PySem.W.excIn K x_BadWhat PySem.HandSPX.veTail "ValueError.__new__" = true)
    (q2_BadWhat : PySem.W.keepIn K (.ref x_BadWhat) = true)
    (q3_BadWhat : PySem.W.subIn K (.ref x_BadWhat) (.type "BaseException") = some true)
    (q4_BadWhat : PySem.W.typeIn K (.ref x_BadWhat) = some (.type "type"))
    {x_BadTubs : Addr}
    (gx_BadTubs : PySem.W.nsIn K mainGlobals "BadTubs" = some (some (.ref x_BadTubs)))
    (q1_BadTubs : PySem.W.excIn K x_BadTubs PySem.HandSPX.veTail "ValueError.__new__" = true)
    (q2_BadTubs : PySem.W.keepIn K (.ref x_BadTubs) = true)
    (q3_BadTubs : PySem.W.subIn K (.ref x_BadTubs) (.type "BaseException") = some true)
    (q4_BadTubs : PySem.W.typeIn K (.ref x_BadTubs) = some (.type "type"))
    {x_BadRule : Addr}
    (gx_BadRule : PySem.W.nsIn K mainGlobals "BadRule" = some (some (.ref x_BadRule)))
    (q1_BadRule : PySem.W.excIn K x_BadRule PySem.HandSPX.veTail "ValueError.__new__" = true)
    (q2_BadRule : PySem.W.keepIn K (.ref x_BadRule) = true)
    (q3_BadRule : PySem.W.subIn K (.ref x_BadRule) (.type "BaseException") = some true)
    (q4_BadRule : PySem.W.typeIn K (.ref x_BadRule) = some (.type "type"))
    {x_BadBill : Addr}
    (gx_BadBill : PySem.W.nsIn K mainGlobals "BadBill" = some (some (.ref x_BadBill)))
    (q1_BadBill : PySem.W.excIn K x_BadBill PySem.HandSPX.veTail "ValueError.__new__" = true)
    (q2_BadBill : PySem.W.keepIn K (.ref x_BadBill) = true)
    (q3_BadBill : PySem.W.subIn K (.ref x_BadBill) (.type "BaseException") = some true)
    (q4_BadBill : PySem.W.typeIn K (.ref x_BadBill) = some (.type "type"))
    {x_BadBoards : Addr}
    (gx_BadBoards : PySem.W.nsIn K mainGlobals "BadBoards" = some (some (.ref x_BadBoards)))
    (q1_BadBoards : PySem.W.excIn K x_BadBoards PySem.HandSPX.veTail "ValueError.__new__" = true)
    (q2_BadBoards : PySem.W.keepIn K (.ref x_BadBoards) = true)
    (q3_BadBoards : PySem.W.subIn K (.ref x_BadBoards) (.type "BaseException") = some true)
    (q4_BadBoards : PySem.W.typeIn K (.ref x_BadBoards) = some (.type "type"))
    {x_BadComers : Addr}
    (gx_BadComers : PySem.W.nsIn K mainGlobals "BadComers" = some (some (.ref x_BadComers)))
    (q1_BadComers : PySem.W.excIn K x_BadComers PySem.HandSPX.veTail "ValueError.__new__" = true)
    (q2_BadComers : PySem.W.keepIn K (.ref x_BadComers) = true)
    (q3_BadComers : PySem.W.subIn K (.ref x_BadComers) (.type "BaseException") = some true)
    (q4_BadComers : PySem.W.typeIn K (.ref x_BadComers) = some (.type "type"))
    {x_BadPlace : Addr}
    (gx_BadPlace : PySem.W.nsIn K mainGlobals "BadPlace" = some (some (.ref x_BadPlace)))
    (q1_BadPlace : PySem.W.excIn K x_BadPlace PySem.HandSPX.veTail "ValueError.__new__" = true)
    (q2_BadPlace : PySem.W.keepIn K (.ref x_BadPlace) = true)
    (q3_BadPlace : PySem.W.subIn K (.ref x_BadPlace) (.type "BaseException") = some true)
    (q4_BadPlace : PySem.W.typeIn K (.ref x_BadPlace) = some (.type "type"))
    {x_BadRules : Addr}
    (gx_BadRules : PySem.W.nsIn K mainGlobals "BadRules" = some (some (.ref x_BadRules)))
    (q1_BadRules : PySem.W.excIn K x_BadRules PySem.HandSPX.veTail "ValueError.__new__" = true)
    (q2_BadRules : PySem.W.keepIn K (.ref x_BadRules) = true)
    (q3_BadRules : PySem.W.subIn K (.ref x_BadRules) (.type "BaseException") = some true)
    (q4_BadRules : PySem.W.typeIn K (.ref x_BadRules) = some (.type "type"))
    {x_NothingToUndo : Addr}
    (gx_NothingToUndo : PySem.W.nsIn K mainGlobals "NothingToUndo" = some (some (.ref x_NothingToUndo)))
    (q1_NothingToUndo : PySem.W.excIn K x_NothingToUndo PySem.HandSPX.veTail "ValueError.__new__" = true)
    (q2_NothingToUndo : PySem.W.keepIn K (.ref x_NothingToUndo) = true)
    (q3_NothingToUndo : PySem.W.subIn K (.ref x_NothingToUndo) (.type "BaseException") = some true)
    (q4_NothingToUndo : PySem.W.typeIn K (.ref x_NothingToUndo) = some (.type "type"))
    {x_Full : Addr}
    (gx_Full : PySem.W.nsIn K mainGlobals "Full" = some (some (.ref x_Full)))
    (q1_Full : PySem.W.excIn K x_Full PySem.HandSPX.veTail "ValueError.__new__" = true)
    (q2_Full : PySem.W.keepIn K (.ref x_Full) = true)
    (q3_Full : PySem.W.subIn K (.ref x_Full) (.type "BaseException") = some true)
    (q4_Full : PySem.W.typeIn K (.ref x_Full) = some (.type "type"))
    {x_TooMany : Addr}
    (gx_TooMany : PySem.W.nsIn K mainGlobals "TooMany" = some (some (.ref x_TooMany)))
    (q1_TooMany : PySem.W.excIn K x_TooMany PySem.HandSPX.veTail "ValueError.__new__" = true)
    (q2_TooMany : PySem.W.keepIn K (.ref x_TooMany) = true)
    (q3_TooMany : PySem.W.subIn K (.ref x_TooMany) (.type "BaseException") = some true)
    (q4_TooMany : PySem.W.typeIn K (.ref x_TooMany) = some (.type "type"))
    {x_BadCommand : Addr}
    (gx_BadCommand : PySem.W.nsIn K mainGlobals "BadCommand" = some (some (.ref x_BadCommand)))
    (q1_BadCommand : PySem.W.excIn K x_BadCommand PySem.HandSPX.veTail "ValueError.__new__" = true)
    (q2_BadCommand : PySem.W.keepIn K (.ref x_BadCommand) = true)
    (q3_BadCommand : PySem.W.subIn K (.ref x_BadCommand) (.type "BaseException") = some true)
    (q4_BadCommand : PySem.W.typeIn K (.ref x_BadCommand) = some (.type "type"))
    {x_BadMove : Addr}
    (gx_BadMove : PySem.W.nsIn K mainGlobals "BadMove" = some (some (.ref x_BadMove)))
    (q1_BadMove : PySem.W.excIn K x_BadMove PySem.HandSPX.veTail "ValueError.__new__" = true)
    (q2_BadMove : PySem.W.keepIn K (.ref x_BadMove) = true)
    (q3_BadMove : PySem.W.subIn K (.ref x_BadMove) (.type "BaseException") = some true)
    (q4_BadMove : PySem.W.typeIn K (.ref x_BadMove) = some (.type "type"))
    {x_BadOpenings : Addr}
    (gx_BadOpenings : PySem.W.nsIn K mainGlobals "BadOpenings" = some (some (.ref x_BadOpenings)))
    (q1_BadOpenings : PySem.W.excIn K x_BadOpenings PySem.HandSPX.veTail "ValueError.__new__" = true)
    (q2_BadOpenings : PySem.W.keepIn K (.ref x_BadOpenings) = true)
    (q3_BadOpenings : PySem.W.subIn K (.ref x_BadOpenings) (.type "BaseException") = some true)
    (q4_BadOpenings : PySem.W.typeIn K (.ref x_BadOpenings) = some (.type "type"))
    {x_BadView : Addr}
    (gx_BadView : PySem.W.nsIn K mainGlobals "BadView" = some (some (.ref x_BadView)))
    (q1_BadView : PySem.W.excIn K x_BadView PySem.HandSPX.veTail "ValueError.__new__" = true)
    (q2_BadView : PySem.W.keepIn K (.ref x_BadView) = true)
    (q3_BadView : PySem.W.subIn K (.ref x_BadView) (.type "BaseException") = some true)
    (q4_BadView : PySem.W.typeIn K (.ref x_BadView) = some (.type "type"))
    {x_BadWalk : Addr}
    (gx_BadWalk : PySem.W.nsIn K mainGlobals "BadWalk" = some (some (.ref x_BadWalk)))
    {nm_BadWalk qq_BadWalk : Str} {nn_BadWalk : Addr} {bs_BadWalk bm_BadWalk : List Value} {sn_BadWalk : List Str} {sub_BadWalk : List Value} {ab_BadWalk : Bool} {col_BadWalk : Option Bool} {dd_BadWalk : Option Addr} {c0_BadWalk c1_BadWalk c2_BadWalk c3_BadWalk c5_BadWalk : Option Value}
    (cl_BadWalk : K.lookup x_BadWalk = some (PySem.excClassObj nm_BadWalk qq_BadWalk x_BadWalk nn_BadWalk bs_BadWalk bm_BadWalk true sn_BadWalk sub_BadWalk ab_BadWalk col_BadWalk dd_BadWalk c0_BadWalk c1_BadWalk c2_BadWalk c3_BadWalk c5_BadWalk "ValueError.__new__"))
    (rv_BadWalk : PySem.HandSPX.refsVE bm_BadWalk = true)
    (sa_BadWalk : PySem.W.findIn K (.ref x_BadWalk) "__setattr__" = some (some (.builtin "object.__setattr__")))
    (no_BadWalk : PySem.W.findIn K (.ref x_BadWalk) Exf.nPlc = some none)
    (kc_BadWalk : PySem.W.keepIn K (.ref x_BadWalk) = true)
    (ex_BadWalk : PySem.W.subIn K (.ref x_BadWalk) (.type "BaseException") = some true)
    (ty_BadWalk : PySem.W.typeIn K (.ref x_BadWalk) = some (.type "type"))
    (su_BadWalk : PySem.W.ks_superIn K x_BadWalk x_BadWalk "__init__" = some (some (.builtin "ValueError.__init__")))
    (ve_BadWalk : PySem.W.subIn K (.ref x_BadWalk) (.type "ValueError") = some true)
    (se_BadWalk : PySem.W.mroIn K x_BadWalk (.ref x_BadWalk) = some true)
    {fI_BadWalk cda_BadWalk cc_BadWalk : Addr} {qual_BadWalk : Str} {oc_BadWalk doc_BadWalk pm_BadWalk ct_BadWalk ccl_BadWalk cel_BadWalk : Value} {od_BadWalk an_BadWalk cdd_BadWalk cld_BadWalk : Option Addr} {osl_BadWalk ccs_BadWalk csl_BadWalk : Array (Option Value)} {vs_BadWalk : Array Value} {t_BadWalk : Tok} {a1_BadWalk a2_BadWalk p1_BadWalk p2_BadWalk p3_BadWalk p4_BadWalk p5_BadWalk p6_BadWalk p7_BadWalk p8_BadWalk p9_BadWalk pa_BadWalk pb_BadWalk pc_BadWalk pd_BadWalk pe_BadWalk : Pos} {m1_BadWalk m2_BadWalk : Str} {k1_BadWalk k2_BadWalk : Nat}
    (fi_BadWalk : PySem.W.findIn K (.ref x_BadWalk) "__init__" = some (some (.ref fI_BadWalk)))
    (tf_BadWalk : PySem.W.typeIn K (.ref fI_BadWalk) = some (.type "function"))
    (lf_BadWalk : K.lookup fI_BadWalk = some ⟨oc_BadWalk, od_BadWalk, .func (PySem.W.ksFn "__init__" qual_BadWalk (Exf.inA ⟨a1_BadWalk, a2_BadWalk, m1_BadWalk, m2_BadWalk, k1_BadWalk, k2_BadWalk, p1_BadWalk, p2_BadWalk, p3_BadWalk, p4_BadWalk, p5_BadWalk, p6_BadWalk, p7_BadWalk, p8_BadWalk, p9_BadWalk, pa_BadWalk, pb_BadWalk, pc_BadWalk, pd_BadWalk, pe_BadWalk⟩) (Exf.inB ⟨a1_BadWalk, a2_BadWalk, m1_BadWalk, m2_BadWalk, k1_BadWalk, k2_BadWalk, p1_BadWalk, p2_BadWalk, p3_BadWalk, p4_BadWalk, p5_BadWalk, p6_BadWalk, p7_BadWalk, p8_BadWalk, p9_BadWalk, pa_BadWalk, pb_BadWalk, pc_BadWalk, pd_BadWalk, pe_BadWalk⟩) Exf.inSc .none .none doc_BadWalk pm_BadWalk an_BadWalk (.ref cda_BadWalk) ct_BadWalk cc_BadWalk), osl_BadWalk⟩)
    (cd_BadWalk : PySem.W.codeIn K (.ref cda_BadWalk) qual_BadWalk = true)
    (lc_BadWalk : K.lookup cda_BadWalk = some ⟨ccl_BadWalk, cdd_BadWalk, .fields vs_BadWalk, ccs_BadWalk⟩)
    (vv_BadWalk : vs_BadWalk[2]? = some (.str "/claim/cut.py" t_BadWalk))
    (le_BadWalk : K.lookup cc_BadWalk = some ⟨cel_BadWalk, cld_BadWalk, .cell (some (.ref x_BadWalk)), csl_BadWalk⟩)
    (l1_BadWalk : m1_BadWalk.length ≤ 200)
    (l2_BadWalk : m2_BadWalk.length ≤ 200)
    (pe8_BadWalk : (p8_BadWalk.endLine == p9_BadWalk.line) = true)
    {x_BadRow : Addr}
    (gx_BadRow : PySem.W.nsIn K mainGlobals "BadRow" = some (some (.ref x_BadRow)))
    {nm_BadRow qq_BadRow : Str} {nn_BadRow : Addr} {bs_BadRow bm_BadRow : List Value} {sn_BadRow : List Str} {sub_BadRow : List Value} {ab_BadRow : Bool} {col_BadRow : Option Bool} {dd_BadRow : Option Addr} {c0_BadRow c1_BadRow c2_BadRow c3_BadRow c5_BadRow : Option Value}
    (cl_BadRow : K.lookup x_BadRow = some (PySem.excClassObj nm_BadRow qq_BadRow x_BadRow nn_BadRow bs_BadRow bm_BadRow true sn_BadRow sub_BadRow ab_BadRow col_BadRow dd_BadRow c0_BadRow c1_BadRow c2_BadRow c3_BadRow c5_BadRow "ValueError.__new__"))
    (rv_BadRow : PySem.HandSPX.refsVE bm_BadRow = true)
    (sa_BadRow : PySem.W.findIn K (.ref x_BadRow) "__setattr__" = some (some (.builtin "object.__setattr__")))
    (no_BadRow : PySem.W.findIn K (.ref x_BadRow) Exf.nPlc = some none)
    (kc_BadRow : PySem.W.keepIn K (.ref x_BadRow) = true)
    (ex_BadRow : PySem.W.subIn K (.ref x_BadRow) (.type "BaseException") = some true)
    (ty_BadRow : PySem.W.typeIn K (.ref x_BadRow) = some (.type "type"))
    (su_BadRow : PySem.W.ks_superIn K x_BadRow x_BadRow "__init__" = some (some (.builtin "ValueError.__init__")))
    (ve_BadRow : PySem.W.subIn K (.ref x_BadRow) (.type "ValueError") = some true)
    (se_BadRow : PySem.W.mroIn K x_BadRow (.ref x_BadRow) = some true)
    {fI_BadRow cda_BadRow cc_BadRow : Addr} {qual_BadRow : Str} {oc_BadRow doc_BadRow pm_BadRow ct_BadRow ccl_BadRow cel_BadRow : Value} {od_BadRow an_BadRow cdd_BadRow cld_BadRow : Option Addr} {osl_BadRow ccs_BadRow csl_BadRow : Array (Option Value)} {vs_BadRow : Array Value} {t_BadRow : Tok} {a1_BadRow a2_BadRow p1_BadRow p2_BadRow p3_BadRow p4_BadRow p5_BadRow p6_BadRow p7_BadRow p8_BadRow p9_BadRow pa_BadRow pb_BadRow pc_BadRow pd_BadRow pe_BadRow : Pos} {m1_BadRow m2_BadRow : Str} {k1_BadRow k2_BadRow : Nat}
    (fi_BadRow : PySem.W.findIn K (.ref x_BadRow) "__init__" = some (some (.ref fI_BadRow)))
    (tf_BadRow : PySem.W.typeIn K (.ref fI_BadRow) = some (.type "function"))
    (lf_BadRow : K.lookup fI_BadRow = some ⟨oc_BadRow, od_BadRow, .func (PySem.W.ksFn "__init__" qual_BadRow (Exf.inA ⟨a1_BadRow, a2_BadRow, m1_BadRow, m2_BadRow, k1_BadRow, k2_BadRow, p1_BadRow, p2_BadRow, p3_BadRow, p4_BadRow, p5_BadRow, p6_BadRow, p7_BadRow, p8_BadRow, p9_BadRow, pa_BadRow, pb_BadRow, pc_BadRow, pd_BadRow, pe_BadRow⟩) (Exf.inB ⟨a1_BadRow, a2_BadRow, m1_BadRow, m2_BadRow, k1_BadRow, k2_BadRow, p1_BadRow, p2_BadRow, p3_BadRow, p4_BadRow, p5_BadRow, p6_BadRow, p7_BadRow, p8_BadRow, p9_BadRow, pa_BadRow, pb_BadRow, pc_BadRow, pd_BadRow, pe_BadRow⟩) Exf.inSc .none .none doc_BadRow pm_BadRow an_BadRow (.ref cda_BadRow) ct_BadRow cc_BadRow), osl_BadRow⟩)
    (cd_BadRow : PySem.W.codeIn K (.ref cda_BadRow) qual_BadRow = true)
    (lc_BadRow : K.lookup cda_BadRow = some ⟨ccl_BadRow, cdd_BadRow, .fields vs_BadRow, ccs_BadRow⟩)
    (vv_BadRow : vs_BadRow[2]? = some (.str "/claim/cut.py" t_BadRow))
    (le_BadRow : K.lookup cc_BadRow = some ⟨cel_BadRow, cld_BadRow, .cell (some (.ref x_BadRow)), csl_BadRow⟩)
    (l1_BadRow : m1_BadRow.length ≤ 200)
    (l2_BadRow : m2_BadRow.length ≤ 200)
    (pe8_BadRow : (p8_BadRow.endLine == p9_BadRow.line) = true)
    {x_BadAsking : Addr}
    (gx_BadAsking : PySem.W.nsIn K mainGlobals "BadAsking" = some (some (.ref x_BadAsking)))
    {nm_BadAsking qq_BadAsking : Str} {nn_BadAsking : Addr} {bs_BadAsking bm_BadAsking : List Value} {sn_BadAsking : List Str} {sub_BadAsking : List Value} {ab_BadAsking : Bool} {col_BadAsking : Option Bool} {dd_BadAsking : Option Addr} {c0_BadAsking c1_BadAsking c2_BadAsking c3_BadAsking c5_BadAsking : Option Value}
    (cl_BadAsking : K.lookup x_BadAsking = some (PySem.excClassObj nm_BadAsking qq_BadAsking x_BadAsking nn_BadAsking bs_BadAsking bm_BadAsking true sn_BadAsking sub_BadAsking ab_BadAsking col_BadAsking dd_BadAsking c0_BadAsking c1_BadAsking c2_BadAsking c3_BadAsking c5_BadAsking "ValueError.__new__"))
    (rv_BadAsking : PySem.HandSPX.refsVE bm_BadAsking = true)
    (sa_BadAsking : PySem.W.findIn K (.ref x_BadAsking) "__setattr__" = some (some (.builtin "object.__setattr__")))
    (no_BadAsking : PySem.W.findIn K (.ref x_BadAsking) Exf.nPlc = some none)
    (kc_BadAsking : PySem.W.keepIn K (.ref x_BadAsking) = true)
    (ex_BadAsking : PySem.W.subIn K (.ref x_BadAsking) (.type "BaseException") = some true)
    (ty_BadAsking : PySem.W.typeIn K (.ref x_BadAsking) = some (.type "type"))
    (su_BadAsking : PySem.W.ks_superIn K x_BadAsking x_BadAsking "__init__" = some (some (.builtin "ValueError.__init__")))
    (ve_BadAsking : PySem.W.subIn K (.ref x_BadAsking) (.type "ValueError") = some true)
    (se_BadAsking : PySem.W.mroIn K x_BadAsking (.ref x_BadAsking) = some true)
    {fI_BadAsking cda_BadAsking cc_BadAsking : Addr} {qual_BadAsking : Str} {oc_BadAsking doc_BadAsking pm_BadAsking ct_BadAsking ccl_BadAsking cel_BadAsking : Value} {od_BadAsking an_BadAsking cdd_BadAsking cld_BadAsking : Option Addr} {osl_BadAsking ccs_BadAsking csl_BadAsking : Array (Option Value)} {vs_BadAsking : Array Value} {t_BadAsking : Tok} {a1_BadAsking a2_BadAsking p1_BadAsking p2_BadAsking p3_BadAsking p4_BadAsking p5_BadAsking p6_BadAsking p7_BadAsking p8_BadAsking p9_BadAsking pa_BadAsking pb_BadAsking pc_BadAsking pd_BadAsking pe_BadAsking : Pos} {m1_BadAsking m2_BadAsking : Str} {k1_BadAsking k2_BadAsking : Nat}
    (fi_BadAsking : PySem.W.findIn K (.ref x_BadAsking) "__init__" = some (some (.ref fI_BadAsking)))
    (tf_BadAsking : PySem.W.typeIn K (.ref fI_BadAsking) = some (.type "function"))
    (lf_BadAsking : K.lookup fI_BadAsking = some ⟨oc_BadAsking, od_BadAsking, .func (PySem.W.ksFn "__init__" qual_BadAsking (Exf.inA ⟨a1_BadAsking, a2_BadAsking, m1_BadAsking, m2_BadAsking, k1_BadAsking, k2_BadAsking, p1_BadAsking, p2_BadAsking, p3_BadAsking, p4_BadAsking, p5_BadAsking, p6_BadAsking, p7_BadAsking, p8_BadAsking, p9_BadAsking, pa_BadAsking, pb_BadAsking, pc_BadAsking, pd_BadAsking, pe_BadAsking⟩) (Exf.inB ⟨a1_BadAsking, a2_BadAsking, m1_BadAsking, m2_BadAsking, k1_BadAsking, k2_BadAsking, p1_BadAsking, p2_BadAsking, p3_BadAsking, p4_BadAsking, p5_BadAsking, p6_BadAsking, p7_BadAsking, p8_BadAsking, p9_BadAsking, pa_BadAsking, pb_BadAsking, pc_BadAsking, pd_BadAsking, pe_BadAsking⟩) Exf.inSc .none .none doc_BadAsking pm_BadAsking an_BadAsking (.ref cda_BadAsking) ct_BadAsking cc_BadAsking), osl_BadAsking⟩)
    (cd_BadAsking : PySem.W.codeIn K (.ref cda_BadAsking) qual_BadAsking = true)
    (lc_BadAsking : K.lookup cda_BadAsking = some ⟨ccl_BadAsking, cdd_BadAsking, .fields vs_BadAsking, ccs_BadAsking⟩)
    (vv_BadAsking : vs_BadAsking[2]? = some (.str "/claim/cut.py" t_BadAsking))
    (le_BadAsking : K.lookup cc_BadAsking = some ⟨cel_BadAsking, cld_BadAsking, .cell (some (.ref x_BadAsking)), csl_BadAsking⟩)
    (l1_BadAsking : m1_BadAsking.length ≤ 200)
    (l2_BadAsking : m2_BadAsking.length ≤ 200)
    (pe8_BadAsking : (p8_BadAsking.endLine == p9_BadAsking.line) = true)
    {x_BadText : Addr}
    (gx_BadText : PySem.W.nsIn K mainGlobals "BadText" = some (some (.ref x_BadText)))
    {nm_BadText qq_BadText : Str} {nn_BadText : Addr} {bs_BadText bm_BadText : List Value} {sn_BadText : List Str} {sub_BadText : List Value} {ab_BadText : Bool} {col_BadText : Option Bool} {dd_BadText : Option Addr} {c0_BadText c1_BadText c2_BadText c3_BadText c5_BadText : Option Value}
    (cl_BadText : K.lookup x_BadText = some (PySem.excClassObj nm_BadText qq_BadText x_BadText nn_BadText bs_BadText bm_BadText true sn_BadText sub_BadText ab_BadText col_BadText dd_BadText c0_BadText c1_BadText c2_BadText c3_BadText c5_BadText "ValueError.__new__"))
    (rv_BadText : PySem.HandSPX.refsVE bm_BadText = true)
    (sa_BadText : PySem.W.findIn K (.ref x_BadText) "__setattr__" = some (some (.builtin "object.__setattr__")))
    (no_BadText : PySem.W.findIn K (.ref x_BadText) Exf.nPlc = some none)
    (kc_BadText : PySem.W.keepIn K (.ref x_BadText) = true)
    (ex_BadText : PySem.W.subIn K (.ref x_BadText) (.type "BaseException") = some true)
    (ty_BadText : PySem.W.typeIn K (.ref x_BadText) = some (.type "type"))
    (su_BadText : PySem.W.ks_superIn K x_BadText x_BadText "__init__" = some (some (.builtin "ValueError.__init__")))
    (ve_BadText : PySem.W.subIn K (.ref x_BadText) (.type "ValueError") = some true)
    (se_BadText : PySem.W.mroIn K x_BadText (.ref x_BadText) = some true)
    {fI_BadText cda_BadText cc_BadText : Addr} {qual_BadText : Str} {oc_BadText doc_BadText pm_BadText ct_BadText ccl_BadText cel_BadText : Value} {od_BadText an_BadText cdd_BadText cld_BadText : Option Addr} {osl_BadText ccs_BadText csl_BadText : Array (Option Value)} {vs_BadText : Array Value} {t_BadText : Tok} {a1_BadText a2_BadText p1_BadText p2_BadText p3_BadText p4_BadText p5_BadText p6_BadText p7_BadText p8_BadText p9_BadText pa_BadText pb_BadText pc_BadText pd_BadText pe_BadText : Pos} {m1_BadText m2_BadText : Str} {k1_BadText k2_BadText : Nat}
    (fi_BadText : PySem.W.findIn K (.ref x_BadText) "__init__" = some (some (.ref fI_BadText)))
    (tf_BadText : PySem.W.typeIn K (.ref fI_BadText) = some (.type "function"))
    (lf_BadText : K.lookup fI_BadText = some ⟨oc_BadText, od_BadText, .func (PySem.W.ksFn "__init__" qual_BadText (Exf.inA ⟨a1_BadText, a2_BadText, m1_BadText, m2_BadText, k1_BadText, k2_BadText, p1_BadText, p2_BadText, p3_BadText, p4_BadText, p5_BadText, p6_BadText, p7_BadText, p8_BadText, p9_BadText, pa_BadText, pb_BadText, pc_BadText, pd_BadText, pe_BadText⟩) (Exf.inB ⟨a1_BadText, a2_BadText, m1_BadText, m2_BadText, k1_BadText, k2_BadText, p1_BadText, p2_BadText, p3_BadText, p4_BadText, p5_BadText, p6_BadText, p7_BadText, p8_BadText, p9_BadText, pa_BadText, pb_BadText, pc_BadText, pd_BadText, pe_BadText⟩) Exf.inSc .none .none doc_BadText pm_BadText an_BadText (.ref cda_BadText) ct_BadText cc_BadText), osl_BadText⟩)
    (cd_BadText : PySem.W.codeIn K (.ref cda_BadText) qual_BadText = true)
    (lc_BadText : K.lookup cda_BadText = some ⟨ccl_BadText, cdd_BadText, .fields vs_BadText, ccs_BadText⟩)
    (vv_BadText : vs_BadText[2]? = some (.str "/claim/cut.py" t_BadText))
    (le_BadText : K.lookup cc_BadText = some ⟨cel_BadText, cld_BadText, .cell (some (.ref x_BadText)), csl_BadText⟩)
    (l1_BadText : m1_BadText.length ≤ 200)
    (l2_BadText : m2_BadText.length ≤ 200)
    (pe8_BadText : (p8_BadText.endLine == p9_BadText.line) = true)
    {x_ParlourError : Addr}
    (gx_ParlourError : PySem.W.nsIn K mainGlobals "ParlourError" = some (some (.ref x_ParlourError)))
    (q1_ParlourError : PySem.W.excIn K x_ParlourError PySem.HandSPX.veTail "ValueError.__new__" = true)
    (q2_ParlourError : PySem.W.keepIn K (.ref x_ParlourError) = true)
    (q3_ParlourError : PySem.W.subIn K (.ref x_ParlourError) (.type "BaseException") = some true)
    (q4_ParlourError : PySem.W.typeIn K (.ref x_ParlourError) = some (.type "type"))
    (zany : PySem.W.nsIn K cStatics "thirdparty.any" = some none)
    (zsup : PySem.W.nsIn K mainGlobals "super" = some none)
    (zve : PySem.W.nsIn K mainGlobals "ValueError" = some none)
    (zfile : (l.prog.main.file == ("/claim/cut.py" : Str)) = true)
    (ztop : (l.prog.main.scope.names.lookup ("super" : Str)).isSome = false)
    (zp : pairsB K [x_BadWeb, x_BadFraction, x_BadCount, x_BadGame, x_BadWay, x_BadOwner, x_BadSetup, x_BadSeats, x_NotDeaf, x_BadWhat, x_BadTubs, x_BadRule, x_BadBill, x_BadBoards, x_BadComers, x_BadPlace, x_BadRules, x_NothingToUndo, x_Full, x_TooMany, x_BadCommand, x_BadMove, x_BadOpenings, x_BadView, x_BadWalk, x_BadRow, x_BadAsking, x_BadText, x_ParlourError] = true)
    (zv : valsB K [x_BadWeb, x_BadFraction, x_BadCount, x_BadGame, x_BadWay, x_BadOwner, x_BadSetup, x_BadSeats, x_NotDeaf, x_BadWhat, x_BadTubs, x_BadRule, x_BadBill, x_BadBoards, x_BadComers, x_BadPlace, x_BadRules, x_NothingToUndo, x_Full, x_TooMany, x_BadCommand, x_BadMove, x_BadOpenings, x_BadView, x_BadWalk, x_BadRow, x_BadAsking, x_BadText, x_ParlourError] = true)
    (za : asksB K [x_BadWeb, x_BadFraction, x_BadCount, x_BadGame, x_BadWay, x_BadOwner, x_BadSetup, x_BadSeats, x_NotDeaf, x_BadWhat, x_BadTubs, x_BadRule, x_BadBill, x_BadBoards, x_BadComers, x_BadPlace, x_BadRules, x_NothingToUndo, x_Full, x_TooMany, x_BadCommand, x_BadMove, x_BadOpenings, x_BadView, x_BadWalk, x_BadRow, x_BadAsking, x_BadText, x_ParlourError] = true)
    :
    ∃ (fd : FuncData) (sp : Sp), (∀ (s : Shared) (u : Value), BindsTo s fd ⟨[u], []⟩ [("_law_script", u)]) ∧
        (∀ (H : Hp) (a : Addr) (ns : List Int), ns.length ≤ 63 → SqL K H a (ns.map V.int) → sp [.ref a] H (fun v _ => v = .bl true) fun _ _ _ => False) ∧
        ∀ base : Heap, K.In base → base.Ns mainGlobals mg → Grd.FnG l.prog w K mg base CX0 7 fa fd ["_law_script"] sp := by
  have e := hfa.symm.trans (PySem.W.mg_of X G a_law)
  cases e
  have D__law_hand := defAt_mk (st := s__law_hand) (ps := ["_law_script"]) X G a__law_hand l__law_hand c__law_hand k__law_hand (fun _ _ _ _ _ _ us hl => match us, hl with | [_], _ => rfl)
  have D__law_draw := defAt_mk (st := s__law_draw) (ps := ["_law_hand_here", "_law_size"]) X G a__law_draw l__law_draw c__law_draw k__law_draw (fun _ _ _ _ _ _ us hl => match us, hl with | [_, _], _ => rfl)
  have D__law_raise := defAt_mk (st := s__law_raise) (ps := ["_law_kind", "_law_text"]) X G a__law_raise l__law_raise c__law_raise k__law_raise (fun _ _ _ _ _ _ us hl => match us, hl with | [_, _], _ => rfl)
  have D__law_raise_more := defAt_mk (st := s__law_raise_more) (ps := ["_law_kind", "_law_text"]) X G a__law_raise_more l__law_raise_more c__law_raise_more k__law_raise_more (fun _ _ _ _ _ _ us hl => match us, hl with | [_, _], _ => rfl)
  have D__law_raise_last := defAt_mk (st := s__law_raise_last) (ps := ["_law_kind", "_law_text", "_law_spot"]) X G a__law_raise_last l__law_raise_last c__law_raise_last k__law_raise_last (fun _ _ _ _ _ _ us hl => match us, hl with | [_, _, _], _ => rfl)
  have D__law_marks := defAt_mk (st := s__law_marks) (ps := ["_law_e"]) X G a__law_marks l__law_marks c__law_marks k__law_marks (fun _ _ _ _ _ _ us hl => match us, hl with | [_], _ => rfl)
  have D__law_more_marks := defAt_mk (st := s__law_more_marks) (ps := ["_law_e"]) X G a__law_more_marks l__law_more_marks c__law_more_marks k__law_more_marks (fun _ _ _ _ _ _ us hl => match us, hl with | [_], _ => rfl)
  have D__law_last_marks := defAt_mk (st := s__law_last_marks) (ps := ["_law_e"]) X G a__law_last_marks l__law_last_marks c__law_last_marks k__law_last_marks (fun _ _ _ _ _ _ us hl => match us, hl with | [_], _ => rfl)
  have D__law_right := defAt_mk (st := s__law_right) (ps := ["_law_kind", "_law_text", "_law_spot"]) X G a__law_right l__law_right c__law_right k__law_right (fun _ _ _ _ _ _ us hl => match us, hl with | [_, _, _], _ => rfl)
  let T : Top l.prog K mg := {
    xs := [x_BadWeb, x_BadFraction, x_BadCount, x_BadGame, x_BadWay, x_BadOwner, x_BadSetup, x_BadSeats, x_NotDeaf, x_BadWhat, x_BadTubs, x_BadRule, x_BadBill, x_BadBoards, x_BadComers, x_BadPlace, x_BadRules, x_NothingToUndo, x_Full, x_TooMany, x_BadCommand, x_BadMove, x_BadOpenings, x_BadView, x_BadWalk, x_BadRow, x_BadAsking, x_BadText, x_ParlourError],
    Y_BadWeb := ⟨q1_BadWeb, PySem.W.mg_of X G gx_BadWeb, q2_BadWeb, q3_BadWeb, q4_BadWeb⟩,
    Y_BadFraction := ⟨q1_BadFraction, PySem.W.mg_of X G gx_BadFraction, q2_BadFraction, q3_BadFraction, q4_BadFraction⟩,
    Y_BadCount := ⟨q1_BadCount, PySem.W.mg_of X G gx_BadCount, q2_BadCount, q3_BadCount, q4_BadCount⟩,
    Y_BadGame := ⟨q1_BadGame, PySem.W.mg_of X G gx_BadGame, q2_BadGame, q3_BadGame, q4_BadGame⟩,
    Y_BadWay := ⟨q1_BadWay, PySem.W.mg_of X G gx_BadWay, q2_BadWay, q3_BadWay, q4_BadWay⟩,
    Y_BadOwner := ⟨q1_BadOwner, PySem.W.mg_of X G gx_BadOwner, q2_BadOwner, q3_BadOwner, q4_BadOwner⟩,
    Y_BadSetup := ⟨q1_BadSetup, PySem.W.mg_of X G gx_BadSetup, q2_BadSetup, q3_BadSetup, q4_BadSetup⟩,
    Y_BadSeats := ⟨q1_BadSeats, PySem.W.mg_of X G gx_BadSeats, q2_BadSeats, q3_BadSeats, q4_BadSeats⟩,
    Y_NotDeaf := ⟨q1_NotDeaf, PySem.W.mg_of X G gx_NotDeaf, q2_NotDeaf, q3_NotDeaf, q4_NotDeaf⟩,
    Y_BadWhat := ⟨q1_BadWhat, PySem.W.mg_of X G gx_BadWhat, q2_BadWhat, q3_BadWhat, q4_BadWhat⟩,
    Y_BadTubs := ⟨q1_BadTubs, PySem.W.mg_of X G gx_BadTubs, q2_BadTubs, q3_BadTubs, q4_BadTubs⟩,
    Y_BadRule := ⟨q1_BadRule, PySem.W.mg_of X G gx_BadRule, q2_BadRule, q3_BadRule, q4_BadRule⟩,
    Y_BadBill := ⟨q1_BadBill, PySem.W.mg_of X G gx_BadBill, q2_BadBill, q3_BadBill, q4_BadBill⟩,
    Y_BadBoards := ⟨q1_BadBoards, PySem.W.mg_of X G gx_BadBoards, q2_BadBoards, q3_BadBoards, q4_BadBoards⟩,
    Y_BadComers := ⟨q1_BadComers, PySem.W.mg_of X G gx_BadComers, q2_BadComers, q3_BadComers, q4_BadComers⟩,
    Y_BadPlace := ⟨q1_BadPlace, PySem.W.mg_of X G gx_BadPlace, q2_BadPlace, q3_BadPlace, q4_BadPlace⟩,
    Y_BadRules := ⟨q1_BadRules, PySem.W.mg_of X G gx_BadRules, q2_BadRules, q3_BadRules, q4_BadRules⟩,
    Y_NothingToUndo := ⟨q1_NothingToUndo, PySem.W.mg_of X G gx_NothingToUndo, q2_NothingToUndo, q3_NothingToUndo, q4_NothingToUndo⟩,
    Y_Full := ⟨q1_Full, PySem.W.mg_of X G gx_Full, q2_Full, q3_Full, q4_Full⟩,
    Y_TooMany := ⟨q1_TooMany, PySem.W.mg_of X G gx_TooMany, q2_TooMany, q3_TooMany, q4_TooMany⟩,
    Y_BadCommand := ⟨q1_BadCommand, PySem.W.mg_of X G gx_BadCommand, q2_BadCommand, q3_BadCommand, q4_BadCommand⟩,
    Y_BadMove := ⟨q1_BadMove, PySem.W.mg_of X G gx_BadMove, q2_BadMove, q3_BadMove, q4_BadMove⟩,
    Y_BadOpenings := ⟨q1_BadOpenings, PySem.W.mg_of X G gx_BadOpenings, q2_BadOpenings, q3_BadOpenings, q4_BadOpenings⟩,
    Y_BadView := ⟨q1_BadView, PySem.W.mg_of X G gx_BadView, q2_BadView, q3_BadView, q4_BadView⟩,
    Y_BadWalk := ⟨PySem.W.mg_of X G gx_BadWalk, ⟨_, _, _, _, _, _, _, _, _, _, _, _, _, _, _, cl_BadWalk, rv_BadWalk⟩, sa_BadWalk, no_BadWalk, kc_BadWalk, ex_BadWalk, ty_BadWalk, su_BadWalk, ve_BadWalk, zany, se_BadWalk, PySem.W.mg_none_of X G zsup, ⟨_, zfile, ztop, _, _, _, _, _, _, _, _, _, _, _, ⟨a1_BadWalk, a2_BadWalk, m1_BadWalk, m2_BadWalk, k1_BadWalk, k2_BadWalk, p1_BadWalk, p2_BadWalk, p3_BadWalk, p4_BadWalk, p5_BadWalk, p6_BadWalk, p7_BadWalk, p8_BadWalk, p9_BadWalk, pa_BadWalk, pb_BadWalk, pc_BadWalk, pd_BadWalk, pe_BadWalk⟩, _, _, _, _, _, _, _, _, fi_BadWalk, tf_BadWalk, lf_BadWalk, cd_BadWalk, lc_BadWalk, vv_BadWalk, le_BadWalk, l1_BadWalk, l2_BadWalk, pe8_BadWalk⟩⟩,
    Y_BadRow := ⟨PySem.W.mg_of X G gx_BadRow, ⟨_, _, _, _, _, _, _, _, _, _, _, _, _, _, _, cl_BadRow, rv_BadRow⟩, sa_BadRow, no_BadRow, kc_BadRow, ex_BadRow, ty_BadRow, su_BadRow, ve_BadRow, zany, se_BadRow, PySem.W.mg_none_of X G zsup, ⟨_, zfile, ztop, _, _, _, _, _, _, _, _, _, _, _, ⟨a1_BadRow, a2_BadRow, m1_BadRow, m2_BadRow, k1_BadRow, k2_BadRow, p1_BadRow, p2_BadRow, p3_BadRow, p4_BadRow, p5_BadRow, p6_BadRow, p7_BadRow, p8_BadRow, p9_BadRow, pa_BadRow, pb_BadRow, pc_BadRow, pd_BadRow, pe_BadRow⟩, _, _, _, _, _, _, _, _, fi_BadRow, tf_BadRow, lf_BadRow, cd_BadRow, lc_BadRow, vv_BadRow, le_BadRow, l1_BadRow, l2_BadRow, pe8_BadRow⟩⟩,
    Y_BadAsking := ⟨PySem.W.mg_of X G gx_BadAsking, ⟨_, _, _, _, _, _, _, _, _, _, _, _, _, _, _, cl_BadAsking, rv_BadAsking⟩, sa_BadAsking, no_BadAsking, kc_BadAsking, ex_BadAsking, ty_BadAsking, su_BadAsking, ve_BadAsking, zany, se_BadAsking, PySem.W.mg_none_of X G zsup, ⟨_, zfile, ztop, _, _, _, _, _, _, _, _, _, _, _, ⟨a1_BadAsking, a2_BadAsking, m1_BadAsking, m2_BadAsking, k1_BadAsking, k2_BadAsking, p1_BadAsking, p2_BadAsking, p3_BadAsking, p4_BadAsking, p5_BadAsking, p6_BadAsking, p7_BadAsking, p8_BadAsking, p9_BadAsking, pa_BadAsking, pb_BadAsking, pc_BadAsking, pd_BadAsking, pe_BadAsking⟩, _, _, _, _, _, _, _, _, fi_BadAsking, tf_BadAsking, lf_BadAsking, cd_BadAsking, lc_BadAsking, vv_BadAsking, le_BadAsking, l1_BadAsking, l2_BadAsking, pe8_BadAsking⟩⟩,
    Y_BadText := ⟨PySem.W.mg_of X G gx_BadText, ⟨_, _, _, _, _, _, _, _, _, _, _, _, _, _, _, cl_BadText, rv_BadText⟩, sa_BadText, no_BadText, kc_BadText, ex_BadText, ty_BadText, su_BadText, ve_BadText, zany, se_BadText, PySem.W.mg_none_of X G zsup, ⟨_, zfile, ztop, _, _, _, _, _, _, _, _, _, _, _, ⟨a1_BadText, a2_BadText, m1_BadText, m2_BadText, k1_BadText, k2_BadText, p1_BadText, p2_BadText, p3_BadText, p4_BadText, p5_BadText, p6_BadText, p7_BadText, p8_BadText, p9_BadText, pa_BadText, pb_BadText, pc_BadText, pd_BadText, pe_BadText⟩, _, _, _, _, _, _, _, _, fi_BadText, tf_BadText, lf_BadText, cd_BadText, lc_BadText, vv_BadText, le_BadText, l1_BadText, l2_BadText, pe8_BadText⟩⟩,
    Y_ParlourError := ⟨q1_ParlourError, PySem.W.mg_of X G gx_ParlourError, q2_ParlourError, q3_ParlourError, q4_ParlourError⟩,
    m_ParlourError := PySem.W.mg_of X G gx_ParlourError, b_ValueError := PySem.W.mg_none_of X G zve, kt := pairs_at zp, kv := fun i hi => (vals_at zv hi).1, ex := fun i hi => (vals_at zv hi).2, ec := fun i hi => (ask_at (all_at za hi)).1, xf := fun i hi => (ask_at (all_at za hi)).2,
    np := fun i h1 h2 => by
      have : i = 24 ∨ i = 25 ∨ i = 26 ∨ i = 27 := by omega
      rcases this with rfl | rfl | rfl | rfl
      · exact no_BadWalk
      · exact no_BadRow
      · exact no_BadAsking
      · exact no_BadText,
    f__law_hand := _, d__law_hand := _, D__law_hand := D__law_hand,
    f__law_draw := _, d__law_draw := _, D__law_draw := D__law_draw,
    f__law_raise := _, d__law_raise := _, D__law_raise := D__law_raise,
    f__law_raise_more := _, d__law_raise_more := _, D__law_raise_more := D__law_raise_more,
    f__law_raise_last := _, d__law_raise_last := _, D__law_raise_last := D__law_raise_last,
    f__law_marks := _, d__law_marks := _, D__law_marks := D__law_marks,
    f__law_more_marks := _, d__law_more_marks := _, D__law_more_marks := D__law_more_marks,
    f__law_last_marks := _, d__law_last_marks := _, D__law_last_marks := D__law_last_marks,
    f__law_right := _, d__law_right := _, D__law_right := D__law_right,
    b_len := PySem.W.mg_none_of X G z_len,
    b_isinstance := PySem.W.mg_none_of X G z_isinstance,
    b_abs := PySem.W.mg_none_of X G z_abs,
    b_all := PySem.W.mg_none_of X G z_all,
    b_int := PySem.W.mg_none_of X G z_int,
    b_list := PySem.W.mg_none_of X G z_list,
    b_range := PySem.W.mg_none_of X G z_range }
  letI : Tb K := ⟨[]⟩
  have hT : Tb.T (K := K) = [] := rfl
  exact ⟨PySem.W.fnOf "law" "law" (defArgs s_law) (defBody s_law) (defScope s_law) .none kV_law dc_law pm_law an_law cd_law ct_law, spA K spLawA, fun s v => .of_eq rfl, fun H a ns hl hS => spLaw_of hT hl hS, fun base _ _ => fng_of (ok_law T (fun_mk (st := s_law) l_law c_law k_law))⟩
end K00
open PySem PySem.W PyProof.Rows
set_option maxRecDepth 100000 in
set_option maxHeartbeats 0 in
theorem PySem.Challenge.cw_parlourday_k00_error_classes_holds : PySem.Challenge.rw_parlourday_k00_error_classes.Holds := by
  w_on; o_law; k_head; (case hw => w_witness2)
  k_fill
  refine Grd.walk_ofG0 (l := PySem.Challenge.rw_parlourday_k00_error_classes) (n := 63) (k := 7) (x := "_law_script") rfl (by decide) rfl ⟨rfl, by decide, by decide⟩ (fun w h Y => PySem.W.kIn_of Y) ?F
  case F =>
    intro w mg fa h KX G hmg
    refine' K00.all_mk KX G hmg ?a__law_hand ?l__law_hand ?c__law_hand ?k__law_hand ?a__law_draw ?l__law_draw ?c__law_draw ?k__law_draw ?a__law_raise ?l__law_raise ?c__law_raise ?k__law_raise ?a__law_raise_more ?l__law_raise_more ?c__law_raise_more ?k__law_raise_more ?a__law_raise_last ?l__law_raise_last ?c__law_raise_last ?k__law_raise_last ?a__law_marks ?l__law_marks ?c__law_marks ?k__law_marks ?a__law_more_marks ?l__law_more_marks ?c__law_more_marks ?k__law_more_marks ?a__law_last_marks ?l__law_last_marks ?c__law_last_marks ?k__law_last_marks ?a__law_right ?l__law_right ?c__law_right ?k__law_right ?a_law ?l_law ?c_law ?k_law ?z_len ?z_isinstance ?z_abs ?z_all ?z_int ?z_list ?z_range ?gx_BadWeb ?q1_BadWeb ?q2_BadWeb ?q3_BadWeb ?q4_BadWeb ?gx_BadFraction ?q1_BadFraction ?q2_BadFraction ?q3_BadFraction ?q4_BadFraction ?gx_BadCount ?q1_BadCount ?q2_BadCount ?q3_BadCount ?q4_BadCount ?gx_BadGame ?q1_BadGame ?q2_BadGame ?q3_BadGame ?q4_BadGame ?gx_BadWay ?q1_BadWay ?q2_BadWay ?q3_BadWay ?q4_BadWay ?gx_BadOwner ?q1_BadOwner ?q2_BadOwner ?q3_BadOwner ?q4_BadOwner ?gx_BadSetup ?q1_BadSetup ?q2_BadSetup ?q3_BadSetup ?q4_BadSetup ?gx_BadSeats ?q1_BadSeats ?q2_BadSeats ?q3_BadSeats ?q4_BadSeats ?gx_NotDeaf ?q1_NotDeaf ?q2_NotDeaf ?q3_NotDeaf ?q4_NotDeaf ?gx_BadWhat ?q1_BadWhat ?q2_BadWhat ?q3_BadWhat ?q4_BadWhat ?gx_BadTubs ?q1_BadTubs ?q2_BadTubs ?q3_BadTubs ?q4_BadTubs ?gx_BadRule ?q1_BadRule ?q2_BadRule ?q3_BadRule ?q4_BadRule ?gx_BadBill ?q1_BadBill ?q2_BadBill ?q3_BadBill ?q4_BadBill ?gx_BadBoards ?q1_BadBoards ?q2_BadBoards ?q3_BadBoards ?q4_BadBoards ?gx_BadComers ?q1_BadComers ?q2_BadComers ?q3_BadComers ?q4_BadComers ?gx_BadPlace ?q1_BadPlace ?q2_BadPlace ?q3_BadPlace ?q4_BadPlace ?gx_BadRules ?q1_BadRules ?q2_BadRules ?q3_BadRules ?q4_BadRules ?gx_NothingToUndo ?q1_NothingToUndo ?q2_NothingToUndo ?q3_NothingToUndo ?q4_NothingToUndo ?gx_Full ?q1_Full ?q2_Full ?q3_Full ?q4_Full ?gx_TooMany ?q1_TooMany ?q2_TooMany ?q3_TooMany ?q4_TooMany ?gx_BadCommand ?q1_BadCommand ?q2_BadCommand ?q3_BadCommand ?q4_BadCommand ?gx_BadMove ?q1_BadMove ?q2_BadMove ?q3_BadMove ?q4_BadMove ?gx_BadOpenings ?q1_BadOpenings ?q2_BadOpenings ?q3_BadOpenings ?q4_BadOpenings ?gx_BadView ?q1_BadView ?q2_BadView ?q3_BadView ?q4_BadView ?gx_BadWalk ?cl_BadWalk ?rv_BadWalk ?sa_BadWalk ?no_BadWalk ?kc_BadWalk ?ex_BadWalk ?ty_BadWalk ?su_BadWalk ?ve_BadWalk ?se_BadWalk ?fi_BadWalk ?tf_BadWalk ?lf_BadWalk ?cd_BadWalk ?lc_BadWalk ?vv_BadWalk ?le_BadWalk ?l1_BadWalk ?l2_BadWalk ?pe8_BadWalk ?gx_BadRow ?cl_BadRow ?rv_BadRow ?sa_BadRow ?no_BadRow ?kc_BadRow ?ex_BadRow ?ty_BadRow ?su_BadRow ?ve_BadRow ?se_BadRow ?fi_BadRow ?tf_BadRow ?lf_BadRow ?cd_BadRow ?lc_BadRow ?vv_BadRow ?le_BadRow ?l1_BadRow ?l2_BadRow ?pe8_BadRow ?gx_BadAsking ?cl_BadAsking ?rv_BadAsking ?sa_BadAsking ?no_BadAsking ?kc_BadAsking ?ex_BadAsking ?ty_BadAsking ?su_BadAsking ?ve_BadAsking ?se_BadAsking ?fi_BadAsking ?tf_BadAsking ?lf_BadAsking ?cd_BadAsking ?lc_BadAsking ?vv_BadAsking ?le_BadAsking ?l1_BadAsking ?l2_BadAsking ?pe8_BadAsking ?gx_BadText ?cl_BadText ?rv_BadText ?sa_BadText ?no_BadText ?kc_BadText ?ex_BadText ?ty_BadText ?su_BadText ?ve_BadText ?se_BadText ?fi_BadText ?tf_BadText ?lf_BadText ?cd_BadText ?lc_BadText ?vv_BadText ?le_BadText ?l1_BadText ?l2_BadText ?pe8_BadText ?gx_ParlourError ?q1_ParlourError ?q2_ParlourError ?q3_ParlourError ?q4_ParlourError ?zany ?zsup ?zve ?zfile ?ztop ?zp ?zv ?za 
    (case gx_BadWeb => first | k_is | kernel_rfl | rfl | decide +kernel); (case q1_BadWeb => first | k_is | kernel_rfl | rfl | decide +kernel); (case q2_BadWeb => first | k_is | kernel_rfl | rfl | decide +kernel); (case q3_BadWeb => first | k_is | kernel_rfl | rfl | decide +kernel); (case q4_BadWeb => first | k_is | kernel_rfl | rfl | decide +kernel); (case gx_BadFraction => first | k_is | kernel_rfl | rfl | decide +kernel); (case q1_BadFraction => first | k_is | kernel_rfl | rfl | decide +kernel); (case q2_BadFraction => first | k_is | kernel_rfl | rfl | decide +kernel); (case q3_BadFraction => first | k_is | kernel_rfl | rfl | decide +kernel); (case q4_BadFraction => first | k_is | kernel_rfl | rfl | decide +kernel); (case gx_BadCount => first | k_is | kernel_rfl | rfl | decide +kernel); (case q1_BadCount => first | k_is | kernel_rfl | rfl | decide +kernel); (case q2_BadCount => first | k_is | kernel_rfl | rfl | decide +kernel); (case q3_BadCount => first | k_is | kernel_rfl | rfl | decide +kernel); (case q4_BadCount => first | k_is | kernel_rfl | rfl | decide +kernel); (case gx_BadGame => first | k_is | kernel_rfl | rfl | decide +kernel); (case q1_BadGame => first | k_is | kernel_rfl | rfl | decide +kernel); (case q2_BadGame => first | k_is | kernel_rfl | rfl | decide +kernel); (case q3_BadGame => first | k_is | kernel_rfl | rfl | decide +kernel); (case q4_BadGame => first | k_is | kernel_rfl | rfl | decide +kernel); (case gx_BadWay => first | k_is | kernel_rfl | rfl | decide +kernel); (case q1_BadWay => first | k_is | kernel_rfl | rfl | decide +kernel); (case q2_BadWay => first | k_is | kernel_rfl | rfl | decide +kernel); (case q3_BadWay => first | k_is | kernel_rfl | rfl | decide +kernel); (case q4_BadWay => first | k_is | kernel_rfl | rfl | decide +kernel); (case gx_BadOwner => first | k_is | kernel_rfl | rfl | decide +kernel); (case q1_BadOwner => first | k_is | kernel_rfl | rfl | decide +kernel); (case q2_BadOwner => first | k_is | kernel_rfl | rfl | decide +kernel); (case q3_BadOwner => first | k_is | kernel_rfl | rfl | decide +kernel); (case q4_BadOwner => first | k_is | kernel_rfl | rfl | decide +kernel); (case gx_BadSetup => first | k_is | kernel_rfl | rfl | decide +kernel); (case q1_BadSetup => first | k_is | kernel_rfl | rfl | decide +kernel); (case q2_BadSetup => first | k_is | kernel_rfl | rfl | decide +kernel); (case q3_BadSetup => first | k_is | kernel_rfl | rfl | decide +kernel); (case q4_BadSetup => first | k_is | kernel_rfl | rfl | decide +kernel); (case gx_BadSeats => first | k_is | kernel_rfl | rfl | decide +kernel); (case q1_BadSeats => first | k_is | kernel_rfl | rfl | decide +kernel); (case q2_BadSeats => first | k_is | kernel_rfl | rfl | decide +kernel); (case q3_BadSeats => first | k_is | kernel_rfl | rfl | decide +kernel); (case q4_BadSeats => first | k_is | kernel_rfl | rfl | decide +kernel); (case gx_NotDeaf => first | k_is | kernel_rfl | rfl | decide +kernel); (case q1_NotDeaf => first | k_is | kernel_rfl | rfl | decide +kernel); (case q2_NotDeaf => first | k_is | kernel_rfl | rfl | decide +kernel); (case q3_NotDeaf => first | k_is | kernel_rfl | rfl | decide +kernel); (case q4_NotDeaf => first | k_is | kernel_rfl | rfl | decide +kernel); (case gx_BadWhat => first | k_is | kernel_rfl | rfl | decide +kernel); (case q1_BadWhat => first | k_is | kernel_rfl | rfl | decide +kernel); (case q2_BadWhat => first | k_is | kernel_rfl | rfl | decide +kernel); (case q3_BadWhat => first | k_is | kernel_rfl | rfl | decide +kernel); (case q4_BadWhat => first | k_is | kernel_rfl | rfl | decide +kernel); (case gx_BadTubs => first | k_is | kernel_rfl | rfl | decide +kernel); (case q1_BadTubs => first | k_is | kernel_rfl | rfl | decide +kernel); (case q2_BadTubs => first | k_is | kernel_rfl | rfl | decide +kernel); (case q3_BadTubs => first | k_is | kernel_rfl | rfl | decide +kernel); (case q4_BadTubs => first | k_is | kernel_rfl | rfl | decide +kernel); (case gx_BadRule => first | k_is | kernel_rfl | rfl | decide +kernel); (case q1_BadRule => first | k_is | kernel_rfl | rfl | decide +kernel); (case q2_BadRule => first | k_is | kernel_rfl | rfl | decide +kernel); (case q3_BadRule => first | k_is | kernel_rfl | rfl | decide +kernel); (case q4_BadRule => first | k_is | kernel_rfl | rfl | decide +kernel); (case gx_BadBill => first | k_is | kernel_rfl | rfl | decide +kernel); (case q1_BadBill => first | k_is | kernel_rfl | rfl | decide +kernel); (case q2_BadBill => first | k_is | kernel_rfl | rfl | decide +kernel); (case q3_BadBill => first | k_is | kernel_rfl | rfl | decide +kernel); (case q4_BadBill => first | k_is | kernel_rfl | rfl | decide +kernel); (case gx_BadBoards => first | k_is | kernel_rfl | rfl | decide +kernel); (case q1_BadBoards => first | k_is | kernel_rfl | rfl | decide +kernel); (case q2_BadBoards => first | k_is | kernel_rfl | rfl | decide +kernel); (case q3_BadBoards => first | k_is | kernel_rfl | rfl | decide +kernel); (case q4_BadBoards => first | k_is | kernel_rfl | rfl | decide +kernel); (case gx_BadComers => first | k_is | kernel_rfl | rfl | decide +kernel); (case q1_BadComers => first | k_is | kernel_rfl | rfl | decide +kernel); (case q2_BadComers => first | k_is | kernel_rfl | rfl | decide +kernel); (case q3_BadComers => first | k_is | kernel_rfl | rfl | decide +kernel); (case q4_BadComers => first | k_is | kernel_rfl | rfl | decide +kernel); (case gx_BadPlace => first | k_is | kernel_rfl | rfl | decide +kernel); (case q1_BadPlace => first | k_is | kernel_rfl | rfl | decide +kernel); (case q2_BadPlace => first | k_is | kernel_rfl | rfl | decide +kernel); (case q3_BadPlace => first | k_is | kernel_rfl | rfl | decide +kernel); (case q4_BadPlace => first | k_is | kernel_rfl | rfl | decide +kernel); (case gx_BadRules => first | k_is | kernel_rfl | rfl | decide +kernel); (case q1_BadRules => first | k_is | kernel_rfl | rfl | decide +kernel); (case q2_BadRules => first | k_is | kernel_rfl | rfl | decide +kernel); (case q3_BadRules => first | k_is | kernel_rfl | rfl | decide +kernel); (case q4_BadRules => first | k_is | kernel_rfl | rfl | decide +kernel); (case gx_NothingToUndo => first | k_is | kernel_rfl | rfl | decide +kernel); (case q1_NothingToUndo => first | k_is | kernel_rfl | rfl | decide +kernel); (case q2_NothingToUndo => first | k_is | kernel_rfl | rfl | decide +kernel); (case q3_NothingToUndo => first | k_is | kernel_rfl | rfl | decide +kernel); (case q4_NothingToUndo => first | k_is | kernel_rfl | rfl | decide +kernel); (case gx_Full => first | k_is | kernel_rfl | rfl | decide +kernel); (case q1_Full => first | k_is | kernel_rfl | rfl | decide +kernel); (case q2_Full => first | k_is | kernel_rfl | rfl | decide +kernel); (case q3_Full => first | k_is | kernel_rfl | rfl | decide +kernel); (case q4_Full => first | k_is | kernel_rfl | rfl | decide +kernel); (case gx_TooMany => first | k_is | kernel_rfl | rfl | decide +kernel); (case q1_TooMany => first | k_is | kernel_rfl | rfl | decide +kernel); (case q2_TooMany => first | k_is | kernel_rfl | rfl | decide +kernel); (case q3_TooMany => first | k_is | kernel_rfl | rfl | decide +kernel); (case q4_TooMany => first | k_is | kernel_rfl | rfl | decide +kernel); (case gx_BadCommand => first | k_is | kernel_rfl | rfl | decide +kernel); (case q1_BadCommand => first | k_is | kernel_rfl | rfl | decide +kernel); (case q2_BadCommand => first | k_is | kernel_rfl | rfl | decide +kernel); (case q3_BadCommand => first | k_is | kernel_rfl | rfl | decide +kernel); (case q4_BadCommand => first | k_is | kernel_rfl | rfl | decide +kernel); (case gx_BadMove => first | k_is | kernel_rfl | rfl | decide +kernel); (case q1_BadMove => first | k_is | kernel_rfl | rfl | decide +kernel); (case q2_BadMove => first | k_is | kernel_rfl | rfl | decide +kernel); (case q3_BadMove => first | k_is | kernel_rfl | rfl | decide +kernel); (case q4_BadMove => first | k_is | kernel_rfl | rfl | decide +kernel); (case gx_BadOpenings => first | k_is | kernel_rfl | rfl | decide +kernel); (case q1_BadOpenings => first | k_is | kernel_rfl | rfl | decide +kernel); (case q2_BadOpenings => first | k_is | kernel_rfl | rfl | decide +kernel); (case q3_BadOpenings => first | k_is | kernel_rfl | rfl | decide +kernel); (case q4_BadOpenings => first | k_is | kernel_rfl | rfl | decide +kernel); (case gx_BadView => first | k_is | kernel_rfl | rfl | decide +kernel); (case q1_BadView => first | k_is | kernel_rfl | rfl | decide +kernel); (case q2_BadView => first | k_is | kernel_rfl | rfl | decide +kernel); (case q3_BadView => first | k_is | kernel_rfl | rfl | decide +kernel); (case q4_BadView => first | k_is | kernel_rfl | rfl | decide +kernel); (case gx_BadWalk => first | k_is | kernel_rfl | rfl | decide +kernel); (case cl_BadWalk => first | k_is | kernel_rfl | rfl | decide +kernel); (case rv_BadWalk => first | k_is | kernel_rfl | rfl | decide +kernel); (case sa_BadWalk => first | k_is | kernel_rfl | rfl | decide +kernel); (case no_BadWalk => first | k_is | kernel_rfl | rfl | decide +kernel); (case kc_BadWalk => first | k_is | kernel_rfl | rfl | decide +kernel); (case ex_BadWalk => first | k_is | kernel_rfl | rfl | decide +kernel); (case ty_BadWalk => first | k_is | kernel_rfl | rfl | decide +kernel); (case su_BadWalk => first | k_is | kernel_rfl | rfl | decide +kernel); (case ve_BadWalk => first | k_is | kernel_rfl | rfl | decide +kernel); (case se_BadWalk => first | k_is | kernel_rfl | rfl | decide +kernel); (case fi_BadWalk => first | k_is | kernel_rfl | rfl | decide +kernel); (case tf_BadWalk => first | k_is | kernel_rfl | rfl | decide +kernel); (case lf_BadWalk => first | k_is | kernel_rfl | rfl | decide +kernel); (case cd_BadWalk => first | k_is | kernel_rfl | rfl | decide +kernel); (case lc_BadWalk => first | k_is | kernel_rfl | rfl | decide +kernel); (case vv_BadWalk => rfl); (case le_BadWalk => first | k_is | kernel_rfl | rfl | decide +kernel); (case l1_BadWalk => first | k_is | kernel_rfl | rfl | decide +kernel); (case l2_BadWalk => first | k_is | kernel_rfl | rfl | decide +kernel); (case pe8_BadWalk => first | k_is | kernel_rfl | rfl | decide +kernel); (case gx_BadRow => first | k_is | kernel_rfl | rfl | decide +kernel); (case cl_BadRow => first | k_is | kernel_rfl | rfl | decide +kernel); (case rv_BadRow => first | k_is | kernel_rfl | rfl | decide +kernel); (case sa_BadRow => first | k_is | kernel_rfl | rfl | decide +kernel); (case no_BadRow => first | k_is | kernel_rfl | rfl | decide +kernel); (case kc_BadRow => first | k_is | kernel_rfl | rfl | decide +kernel); (case ex_BadRow => first | k_is | kernel_rfl | rfl | decide +kernel); (case ty_BadRow => first | k_is | kernel_rfl | rfl | decide +kernel); (case su_BadRow => first | k_is | kernel_rfl | rfl | decide +kernel); (case ve_BadRow => first | k_is | kernel_rfl | rfl | decide +kernel); (case se_BadRow => first | k_is | kernel_rfl | rfl | decide +kernel); (case fi_BadRow => first | k_is | kernel_rfl | rfl | decide +kernel); (case tf_BadRow => first | k_is | kernel_rfl | rfl | decide +kernel); (case lf_BadRow => first | k_is | kernel_rfl | rfl | decide +kernel); (case cd_BadRow => first | k_is | kernel_rfl | rfl | decide +kernel); (case lc_BadRow => first | k_is | kernel_rfl | rfl | decide +kernel); (case vv_BadRow => rfl); (case le_BadRow => first | k_is | kernel_rfl | rfl | decide +kernel); (case l1_BadRow => first | k_is | kernel_rfl | rfl | decide +kernel); (case l2_BadRow => first | k_is | kernel_rfl | rfl | decide +kernel); (case pe8_BadRow => first | k_is | kernel_rfl | rfl | decide +kernel); (case gx_BadAsking => first | k_is | kernel_rfl | rfl | decide +kernel); (case cl_BadAsking => first | k_is | kernel_rfl | rfl | decide +kernel); (case rv_BadAsking => first | k_is | kernel_rfl | rfl | decide +kernel); (case sa_BadAsking => first | k_is | kernel_rfl | rfl | decide +kernel); (case no_BadAsking => first | k_is | kernel_rfl | rfl | decide +kernel); (case kc_BadAsking => first | k_is | kernel_rfl | rfl | decide +kernel); (case ex_BadAsking => first | k_is | kernel_rfl | rfl | decide +kernel); (case ty_BadAsking => first | k_is | kernel_rfl | rfl | decide +kernel); (case su_BadAsking => first | k_is | kernel_rfl | rfl | decide +kernel); (case ve_BadAsking => first | k_is | kernel_rfl | rfl | decide +kernel); (case se_BadAsking => first | k_is | kernel_rfl | rfl | decide +kernel); (case fi_BadAsking => first | k_is | kernel_rfl | rfl | decide +kernel); (case tf_BadAsking => first | k_is | kernel_rfl | rfl | decide +kernel); (case lf_BadAsking => first | k_is | kernel_rfl | rfl | decide +kernel); (case cd_BadAsking => first | k_is | kernel_rfl | rfl | decide +kernel); (case lc_BadAsking => first | k_is | kernel_rfl | rfl | decide +kernel); (case vv_BadAsking => rfl); (case le_BadAsking => first | k_is | kernel_rfl | rfl | decide +kernel); (case l1_BadAsking => first | k_is | kernel_rfl | rfl | decide +kernel); (case l2_BadAsking => first | k_is | kernel_rfl | rfl | decide +kernel); (case pe8_BadAsking => first | k_is | kernel_rfl | rfl | decide +kernel); (case gx_BadText => first | k_is | kernel_rfl | rfl | decide +kernel); (case cl_BadText => first | k_is | kernel_rfl | rfl | decide +kernel); (case rv_BadText => first | k_is | kernel_rfl | rfl | decide +kernel); (case sa_BadText => first | k_is | kernel_rfl | rfl | decide +kernel); (case no_BadText => first | k_is | kernel_rfl | rfl | decide +kernel); (case kc_BadText => first | k_is | kernel_rfl | rfl | decide +kernel); (case ex_BadText => first | k_is | kernel_rfl | rfl | decide +kernel); (case ty_BadText => first | k_is | kernel_rfl | rfl | decide +kernel); (case su_BadText => first | k_is | kernel_rfl | rfl | decide +kernel); (case ve_BadText => first | k_is | kernel_rfl | rfl | decide +kernel); (case se_BadText => first | k_is | kernel_rfl | rfl | decide +kernel); (case fi_BadText => first | k_is | kernel_rfl | rfl | decide +kernel); (case tf_BadText => first | k_is | kernel_rfl | rfl | decide +kernel); (case lf_BadText => first | k_is | kernel_rfl | rfl | decide +kernel); (case cd_BadText => first | k_is | kernel_rfl | rfl | decide +kernel); (case lc_BadText => first | k_is | kernel_rfl | rfl | decide +kernel); (case vv_BadText => rfl); (case le_BadText => first | k_is | kernel_rfl | rfl | decide +kernel); (case l1_BadText => first | k_is | kernel_rfl | rfl | decide +kernel); (case l2_BadText => first | k_is | kernel_rfl | rfl | decide +kernel); (case pe8_BadText => first | k_is | kernel_rfl | rfl | decide +kernel); (case gx_ParlourError => first | k_is | kernel_rfl | rfl | decide +kernel); (case q1_ParlourError => first | k_is | kernel_rfl | rfl | decide +kernel); (case q2_ParlourError => first | k_is | kernel_rfl | rfl | decide +kernel); (case q3_ParlourError => first | k_is | kernel_rfl | rfl | decide +kernel); (case q4_ParlourError => first | k_is | kernel_rfl | rfl | decide +kernel); (case zany => first | k_is | kernel_rfl | rfl | decide +kernel); (case zsup => first | k_is | kernel_rfl | rfl | decide +kernel); (case zve => first | k_is | kernel_rfl | rfl | decide +kernel); (case zfile => first | k_is | kernel_rfl | rfl | decide +kernel); (case ztop => first | k_is | kernel_rfl | rfl | decide +kernel); (case a__law_hand => k_is); (case l__law_hand => k_is); (case c__law_hand => k_is); (case k__law_hand => k_is); (case a__law_draw => k_is); (case l__law_draw => k_is); (case c__law_draw => k_is); (case k__law_draw => k_is); (case a__law_raise => k_is); (case l__law_raise => k_is); (case c__law_raise => k_is); (case k__law_raise => k_is); (case a__law_raise_more => k_is); (case l__law_raise_more => k_is); (case c__law_raise_more => k_is); (case k__law_raise_more => k_is); (case a__law_raise_last => k_is); (case l__law_raise_last => k_is); (case c__law_raise_last => k_is); (case k__law_raise_last => k_is); (case a__law_marks => k_is); (case l__law_marks => k_is); (case c__law_marks => k_is); (case k__law_marks => k_is); (case a__law_more_marks => k_is); (case l__law_more_marks => k_is); (case c__law_more_marks => k_is); (case k__law_more_marks => k_is); (case a__law_last_marks => k_is); (case l__law_last_marks => k_is); (case c__law_last_marks => k_is); (case k__law_last_marks => k_is); (case a__law_right => k_is); (case l__law_right => k_is); (case c__law_right => k_is); (case k__law_right => k_is); (case a_law => k_is); (case l_law => k_is); (case c_law => k_is); (case k_law => k_is); (case z_len => k_is); (case z_isinstance => k_is); (case z_abs => k_is); (case z_all => k_is); (case z_int => k_is); (case z_list => k_is); (case z_range => k_is); (case zp => first | kernel_rfl | decide +kernel); (case zv => first | kernel_rfl | decide +kernel); (case za => first | kernel_rfl | decide +kernel)

