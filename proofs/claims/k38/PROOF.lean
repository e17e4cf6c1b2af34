import PyProof.Rows.All
import Wide.All
import OpenK.AllK
import Wide.FinOn
import HandS.ForMost
import HandS.IsInst
import HandS.Style
import HandS.TupAny
import HandS.TupMul
import HandS.Conv
import HandS.Defaults
import HandS.Wide
import HandS.Codes
import HandS.Nested
import HandS.Zip
import HandS.Lambda
import HandS.EndTab
import HandS.RaiseMore
import HandS.Dict
import HandS.Strs
import HandS.SetFor
import KE.GoesEnum
import HandS.Iter
import HandS.TryOnly
import HandS.WordsExc
import HandS.ExcIs
import KE.IntBitsLaws
import KE.KNestM
import KE.KLam
import PySem.Challenge.RW_parlourday_k38_counts_of_bills
set_option Elab.async false
set_option linter.all false
set_option maxRecDepth 100000
set_option maxHeartbeats 1000000
/-! an abstract machine over data: values that never change (PyData), lists that do (by their places) -/
namespace Dat
open PySem PySem.Spec PyProof.Rows L2
mutual
inductive Dq (K : PySem.W.Frag) (H : Hp) : V → PyData → Prop
  | non : Dq K H .non .none
  | bl (b : Bool) : Dq K H (.bl b) (.bool b)
  | int (i : Int) : Dq K H (.int i) (.int i)
  | str (x : Str) : Dq K H (.str x) (.str x)
  | lst {a : Addr} {xs : List V} {ds : List PyData} (h : H a = some (.lst xs)) (g : DqAll K H xs ds) : Dq K H (.ref a) (.list ds)
  | tup {a : Addr} {xs : List V} {ds : List PyData} (h : SqT K H a xs) (g : DqAll K H xs ds) : Dq K H (.ref a) (.tuple ds)
  | dct {a : Addr} (h : H a = some (.dK [])) : Dq K H (.ref a) (.dict [])
inductive DqAll (K : PySem.W.Frag) (H : Hp) : List V → List PyData → Prop
  | nil : DqAll K H [] []
  | cons {v : V} {vs : List V} {d : PyData} {ds : List PyData} (h : Dq K H v d) (g : DqAll K H vs ds) : DqAll K H (v :: vs) (d :: ds)
end
theorem sqT_same {K : PySem.W.Frag} {H H' : Hp} {a : Addr} {xs : List V} (s : Same H H') (h : SqT K H a xs) : SqT K H' a xs := by
  rcases h with (h | ⟨o, h⟩) | h
  · exact .inl (.inl (s _ _ h))
  · exact .inl (.inr ⟨o, s _ _ h⟩)
  · exact .inr h
section
variable {K : PySem.W.Frag} {H H' : Hp}
mutual
theorem Dq.same (s : Same H H') : ∀ {v : V} {d : PyData}, Dq K H v d → Dq K H' v d
  | _, _, .non => .non
  | _, _, .bl b => .bl b
  | _, _, .int i => .int i
  | _, _, .str x => .str x
  | _, _, .lst h g => .lst (s _ _ h) (DqAll.same s g)
  | _, _, .tup h g => .tup (sqT_same s h) (DqAll.same s g)
  | _, _, .dct h => .dct (s _ _ h)
theorem DqAll.same (s : Same H H') : ∀ {vs : List V} {ds : List PyData}, DqAll K H vs ds → DqAll K H' vs ds
  | _, _, .nil => .nil
  | _, _, .cons h g => .cons (Dq.same s h) (DqAll.same s g)
end
theorem DqAll.length : ∀ {vs : List V} {ds : List PyData}, DqAll K H vs ds → vs.length = ds.length
  | _, _, .nil => rfl
  | _, _, .cons _ g => by rw [List.length_cons, List.length_cons, DqAll.length g]
theorem DqAll.get : ∀ {vs : List V} {ds : List PyData} {i : Nat} {d : PyData}, DqAll K H vs ds → ds[i]? = some d → ∃ v, vs[i]? = some v ∧ Dq K H v d
  | _, _, _, _, .nil, e => by simp at e
  | _, _, 0, _, .cons h _, e => by
    rw [List.getElem?_cons_zero] at e
    cases e
    exact ⟨_, rfl, h⟩
  | _, _, i + 1, _, .cons _ g, e => by
    rw [List.getElem?_cons_succ] at e
    obtain ⟨v, e2, h⟩ := DqAll.get g e
    exact ⟨v, by rw [List.getElem?_cons_succ]; exact e2, h⟩
theorem DqAll.getV : ∀ {vs : List V} {ds : List PyData} {i : Nat} {v : V}, DqAll K H vs ds → vs[i]? = some v → ∃ d, ds[i]? = some d ∧ Dq K H v d
  | _, _, _, _, .nil, e => by simp at e
  | _, _, 0, _, .cons h _, e => by
    rw [List.getElem?_cons_zero] at e
    cases e
    exact ⟨_, rfl, h⟩
  | _, _, i + 1, _, .cons _ g, e => by
    rw [List.getElem?_cons_succ] at e
    obtain ⟨v, e2, h⟩ := DqAll.getV g e
    exact ⟨v, by rw [List.getElem?_cons_succ]; exact e2, h⟩
theorem DqAll.app : ∀ {vs us : List V} {ds es : List PyData}, DqAll K H vs ds → DqAll K H us es → DqAll K H (vs ++ us) (ds ++ es)
  | _, _, _, _, .nil, q => q
  | _, _, _, _, .cons h g, q => .cons h (DqAll.app g q)
theorem DqAll.take : ∀ {vs : List V} {ds : List PyData} (n : Nat), DqAll K H vs ds → DqAll K H (vs.take n) (ds.take n)
  | _, _, 0, _ => by rw [List.take_zero, List.take_zero]; exact .nil
  | _, _, n + 1, .nil => by rw [List.take_nil, List.take_nil]; exact .nil
  | _, _, n + 1, .cons h g => by rw [List.take_succ_cons, List.take_succ_cons]; exact .cons h (DqAll.take n g)
theorem DqAll.drop : ∀ {vs : List V} {ds : List PyData} (n : Nat), DqAll K H vs ds → DqAll K H (vs.drop n) (ds.drop n)
  | _, _, 0, h => by rw [List.drop_zero, List.drop_zero]; exact h
  | _, _, n + 1, .nil => by rw [List.drop_nil, List.drop_nil]; exact .nil
  | _, _, n + 1, .cons h g => by rw [List.drop_succ_cons, List.drop_succ_cons]; exact DqAll.drop n g
theorem DqAll.rev : ∀ {vs : List V} {ds : List PyData}, DqAll K H vs ds → DqAll K H vs.reverse ds.reverse
  | _, _, .nil => .nil
  | _, _, .cons h g => by
    rw [List.reverse_cons, List.reverse_cons]
    exact DqAll.app (DqAll.rev g) (.cons h .nil)
theorem DqAll.ints : ∀ {ns : List Int} {vs : List V}, DqAll K H vs (ns.map PyData.int) → vs = ns.map V.int
  | [], _, h => by cases h; rfl
  | n :: r, _, h => by
    rw [List.map_cons] at h
    cases h with
    | cons h g =>
      cases h
      rw [DqAll.ints g, List.map_cons]
theorem DqAll.ofInts : ∀ {ns : List Int}, DqAll K H (ns.map V.int) (ns.map PyData.int)
  | [] => .nil
  | n :: r => .cons (.int n) DqAll.ofInts
end
/-! ### abstract values, the store of lists that change -/
inductive Av
  | dat (d : PyData)
  | ptr (p : Addr)
  | tup (as : List Av)
  | scr (ns : List Int)
  | fn (f : Addr) (os : List (Addr × HO)) (cap : List (V × PyData))
  | ty (T : String)
mutual
inductive VOk (K : PySem.W.Frag) (F : Hp) : Av → V → Prop
  | dat {d : PyData} {v : V} (h : Dq K F v d) : VOk K F (.dat d) v
  | ptr (p : Addr) : VOk K F (.ptr p) (.ref p)
  | tup {a : Addr} {as : List Av} {xs : List V} (h : F a = some (.tup xs)) (g : VAll K F as xs) : VOk K F (.tup as) (.ref a)
  | scr {a : Addr} {ns : List Int} (h : SqL K F a (ns.map V.int)) : VOk K F (.scr ns) (.ref a)
  | fn {f : Addr} {os : List (Addr × HO)} {cap : List (V × PyData)} (h : ∀ p ∈ os, F p.1 = some p.2) (g : ∀ c ∈ cap, Dq K F c.1 c.2) : VOk K F (.fn f os cap) (.ref f)
  | ty (T : String) : VOk K F (.ty T) (.ty T)
inductive VAll (K : PySem.W.Frag) (F : Hp) : List Av → List V → Prop
  | nil : VAll K F [] []
  | cons {a : Av} {as : List Av} {v : V} {vs : List V} (h : VOk K F a v) (g : VAll K F as vs) : VAll K F (a :: as) (v :: vs)
end
/-- what stands where something may change besides lists: an instance, a dict of ints and texts -/
inductive Ob
  | ins (C dx : Addr) (fs : List (Str × Av))
  | dk (kvs : List (Key × Av))
/-- the lists that may change, the instances and dicts that may -/
structure AH where
  l : Addr → Option (List Av)
  o : Addr → Option Ob
instance : CoeFun AH (fun _ => Addr → Option (List Av)) := ⟨AH.l⟩
theorem AH.ext {Ω Ω' : AH} (h1 : ∀ a, Ω.l a = Ω'.l a) (h2 : Ω.o = Ω'.o) : Ω = Ω' := by
  cases Ω
  cases Ω'
  cases h2
  congr
  exact funext h1
def AH0 : AH := ⟨fun _ => none, fun _ => none⟩
def put (Ω : AH) (p : Addr) (as : List Av) : AH := ⟨fun a => if a = p then some as else Ω a, Ω.o⟩
def del (Ω : AH) (p : Addr) : AH := ⟨fun a => if a = p then none else Ω a, Ω.o⟩
def puto (Ω : AH) (p : Addr) (u : Ob) : AH := ⟨Ω.l, fun a => if a = p then some u else Ω.o a⟩
theorem put_same {Ω : AH} {p : Addr} {as : List Av} : put Ω p as p = some as := if_pos rfl
theorem put_ne {Ω : AH} {p q : Addr} {as : List Av} (h : q ≠ p) : put Ω p as q = Ω q := if_neg h
theorem puto_same {Ω : AH} {p : Addr} {u : Ob} : (puto Ω p u).o p = some u := if_pos rfl
theorem puto_ne {Ω : AH} {p q : Addr} {u : Ob} (h : q ≠ p) : (puto Ω p u).o q = Ω.o q := if_neg h
theorem put_put {Ω : AH} {p : Addr} {as bs : List Av} : put (put Ω p as) p bs = put Ω p bs := by
  refine AH.ext (fun a => ?_) rfl
  unfold put
  dsimp only
  split <;> rfl
theorem puto_puto {Ω : AH} {p : Addr} {u v : Ob} : puto (puto Ω p u) p v = puto Ω p v := by
  refine AH.ext (fun a => rfl) (funext fun a => ?_)
  unfold puto
  dsimp only
  split <;> rfl
theorem puto_put {Ω : AH} {p q : Addr} {u : Ob} {as : List Av} : puto (put Ω p as) q u = put (puto Ω q u) p as := rfl
theorem del_put {Ω : AH} {p : Addr} {as : List Av} (h : Ω p = none) : del (put Ω p as) p = Ω := by
  refine AH.ext (fun a => ?_) rfl
  unfold del put
  dsimp only
  split
  · next e => rw [e, h]
  · rfl
theorem put_id {Ω : AH} {p : Addr} {as : List Av} (h : Ω p = some as) : put Ω p as = Ω := by
  refine AH.ext (fun a => ?_) rfl
  unfold put
  dsimp only
  split
  · next e => rw [e, h]
  · rfl
theorem puto_id {Ω : AH} {p : Addr} {u : Ob} (h : Ω.o p = some u) : puto Ω p u = Ω := by
  refine AH.ext (fun a => rfl) (funext fun a => ?_)
  unfold puto
  dsimp only
  split
  · next e => rw [e, h]
  · rfl
theorem ne_of_Ω {Ω : AH} {p q : Addr} {as : List Av} (h : Ω p = some as) (n : Ω q = none) : p ≠ q := fun e => by
  rw [e, n] at h
  cases h
/-- which tables of code objects are told -/
class Tb (K : PySem.W.Frag) where
  T : List (Addr × Str)
def ntb : Option HO → Option HO
  | some (.tbl _) => none
  | o => o
theorem ntb_of {o : Option HO} {x : HO} (e : ntb o = some x) : o = some x ∧ ∀ q, x ≠ .tbl q := by
  cases o with
  | none => cases e
  | some y => cases y <;> first | (cases e; done) | (cases e; exact ⟨rfl, fun q z => by cases z⟩)
theorem ntb_to {x : HO} (n : ∀ q, x ≠ .tbl q) : ntb (some x) = some x := by
  cases x <;> first | rfl | (exact absurd rfl (n _))
/-- what is seen of the heap besides what may change and the tables -/
def AH.Off (Ω : AH) (a : Addr) : Prop := Ω.l a = none ∧ Ω.o a = none
def Fz (Ω : AH) (H : Hp) : Hp := fun a => match Ω.l a, Ω.o a with
  | none, none => ntb (H a)
  | _, _ => none
theorem Fz_none {Ω : AH} {H : Hp} {a : Addr} (h : Ω.Off a) : Fz Ω H a = ntb (H a) := by
  unfold Fz
  rw [h.1, h.2]
theorem Fz_some {Ω : AH} {H : Hp} {a : Addr} {as : List Av} (h : Ω a = some as) : Fz Ω H a = none := by
  unfold Fz
  rw [h]
theorem Fz_someO {Ω : AH} {H : Hp} {a : Addr} {u : Ob} (h : Ω.o a = some u) : Fz Ω H a = none := by
  unfold Fz
  rw [h]
  cases Ω.l a <;> rfl
theorem Fz_of {Ω : AH} {H : Hp} {a : Addr} {o : HO} (e : Fz Ω H a = some o) : Ω.Off a ∧ H a = some o ∧ ∀ q, o ≠ .tbl q := by
  unfold Fz at e
  split at e
  · next h1 h2 => exact ⟨⟨h1, h2⟩, (ntb_of e).1, (ntb_of e).2⟩
  · cases e
theorem Fz_to {Ω : AH} {H : Hp} {a : Addr} {o : HO} (n : Ω.Off a) (e : H a = some o) (t : ∀ q, o ≠ .tbl q) : Fz Ω H a = some o := by
  rw [Fz_none n, e, ntb_to t]
theorem Fz_le {Ω : AH} {H : Hp} : Same (Fz Ω H) H := fun a o e => (Fz_of e).2.1
theorem Fz_ext {Ω : AH} {H H' : Hp} (s : LamX.ExtN H H') : Same (Fz Ω H) (Fz Ω H') := fun a o e => by
  obtain ⟨h1, h2, h3⟩ := Fz_of e
  exact Fz_to h1 (s a o h2 h3) h3
theorem Fz_same {Ω : AH} {H H' : Hp} (s : Same H H') : Same (Fz Ω H) (Fz Ω H') := Fz_ext (LamX.ExtN.of s)
/-- where the same places are off, all but one place is as it was, and that one is not seen -/
theorem Fz_eq {Ω Ω' : AH} {H H' : Hp} {p : Addr} (h : ∀ a, a ≠ p → (Ω'.l a = Ω.l a ∧ Ω'.o a = Ω.o a ∧ H' a = H a)) (h1 : Fz Ω' H' p = none) (h2 : Fz Ω H p = none) : Fz Ω' H' = Fz Ω H := by
  funext a
  by_cases e : a = p
  · rw [e, h1, h2]
  · obtain ⟨e1, e2, e3⟩ := h a e
    unfold Fz
    rw [e1, e2, e3]
theorem Fz_unset {Ω : AH} {H : Hp} {p : Addr} (n : H p = none) : Fz Ω H p = none := by
  unfold Fz
  split
  · rw [n]
    rfl
  · rfl
theorem Fz_new {Ω : AH} {H : Hp} {p : Addr} {o : HO} {as : List Av} (n : H p = none) : Fz (put Ω p as) (upd H p o) = Fz Ω H :=
  Fz_eq (fun a e => ⟨put_ne e, rfl, upd_ne e⟩) (Fz_some put_same) (Fz_unset n)
theorem Fz_newo {Ω : AH} {H : Hp} {p : Addr} {o : HO} {u : Ob} (n : H p = none) : Fz (puto Ω p u) (upd H p o) = Fz Ω H :=
  Fz_eq (fun a e => ⟨rfl, puto_ne e, upd_ne e⟩) (Fz_someO puto_same) (Fz_unset n)
theorem Fz_put {Ω : AH} {H : Hp} {p : Addr} {o : HO} {as bs : List Av} (n : Ω p = some bs) : Fz (put Ω p as) (upd H p o) = Fz Ω H :=
  Fz_eq (fun a e => ⟨put_ne e, rfl, upd_ne e⟩) (Fz_some put_same) (Fz_some n)
theorem Fz_puto {Ω : AH} {H : Hp} {p : Addr} {o : HO} {u v : Ob} (n : Ω.o p = some v) : Fz (puto Ω p u) (upd H p o) = Fz Ω H :=
  Fz_eq (fun a e => ⟨rfl, puto_ne e, upd_ne e⟩) (Fz_someO puto_same) (Fz_someO n)
theorem Fz_del {Ω : AH} {H : Hp} {p : Addr} : Same (Fz Ω H) (Fz (del Ω p) H) := fun a o e => by
  obtain ⟨n, h2, h3⟩ := Fz_of e
  have m : (del Ω p).l a = none := by
    unfold del
    dsimp only
    split
    · rfl
    · exact n.1
  exact Fz_to ⟨m, n.2⟩ h2 h3
/-- a list's own place is no table, no code object -/
theorem tabs_put {T : List (Addr × Str)} {H : Hp} {p : Addr} {xs ys : List V} (t : LamX.Tabs T H) (e : H p = some (.lst xs)) : LamX.Tabs T (upd H p (.lst ys)) := fun q hq => by
  obtain ⟨ps, h1, h2, h3⟩ := t q hq
  have ne : q.1 ≠ p := fun z => by
    rw [z, e] at h1
    cases h1
  refine ⟨ps, by rw [upd_ne ne]; exact h1, h2, fun pos cv hc => ?_⟩
  obtain ⟨c, e1, e2⟩ := h3 pos cv hc
  have nc : c ≠ p := fun z => by
    rw [z, e] at e2
    unfold LamX.CodeO at e2
    cases e2
  exact ⟨c, e1, by rw [upd_ne nc]; exact e2⟩
section
variable {K : PySem.W.Frag} {F F' : Hp}
mutual
theorem VOk.same (s : Same F F') : ∀ {a : Av} {v : V}, VOk K F a v → VOk K F' a v
  | _, _, .dat h => .dat (h.same s)
  | _, _, .ptr p => .ptr p
  | _, _, .tup h g => .tup (s _ _ h) (VAll.same s g)
  | _, _, .scr h => .scr (s.seq h)
  | _, _, .fn h g => .fn (fun p m => s _ _ (h p m)) (fun c m => (g c m).same s)
  | _, _, .ty T => .ty T
theorem VAll.same (s : Same F F') : ∀ {as : List Av} {vs : List V}, VAll K F as vs → VAll K F' as vs
  | _, _, .nil => .nil
  | _, _, .cons h g => .cons (VOk.same s h) (VAll.same s g)
end
theorem VAll.length : ∀ {as : List Av} {vs : List V}, VAll K F as vs → vs.length = as.length
  | _, _, .nil => rfl
  | _, _, .cons _ g => by rw [List.length_cons, List.length_cons, VAll.length g]
theorem VAll.get : ∀ {as : List Av} {vs : List V} {i : Nat} {a : Av}, VAll K F as vs → as[i]? = some a → ∃ v, vs[i]? = some v ∧ VOk K F a v
  | _, _, _, _, .nil, e => by simp at e
  | _, _, 0, _, .cons h _, e => by
    rw [List.getElem?_cons_zero] at e
    cases e
    exact ⟨_, rfl, h⟩
  | _, _, i + 1, _, .cons _ g, e => by
    rw [List.getElem?_cons_succ] at e
    obtain ⟨v, e2, h⟩ := VAll.get g e
    exact ⟨v, by rw [List.getElem?_cons_succ]; exact e2, h⟩
theorem VAll.app : ∀ {as bs : List Av} {vs us : List V}, VAll K F as vs → VAll K F bs us → VAll K F (as ++ bs) (vs ++ us)
  | _, _, _, _, .nil, q => q
  | _, _, _, _, .cons h g, q => .cons h (VAll.app g q)
theorem VAll.set : ∀ {as : List Av} {vs : List V} {a : Av} {v : V} (i : Nat), VAll K F as vs → VOk K F a v → VAll K F (as.set i a) (vs.set i v)
  | _, _, _, _, _, .nil, _ => .nil
  | _, _, _, _, 0, .cons _ g, k => .cons k g
  | _, _, _, _, i + 1, .cons h g, k => .cons h (VAll.set i g k)
theorem VAll.dats : ∀ {ds : List PyData} {vs : List V}, VAll K F (ds.map .dat) vs → DqAll K F vs ds
  | [], _, h => by cases h; exact .nil
  | d :: r, _, h => by
    rw [List.map_cons] at h
    cases h with
    | cons h g =>
      cases h with
      | dat h => exact .cons h (VAll.dats g)
theorem VAll.ofDats : ∀ {ds : List PyData} {vs : List V}, DqAll K F vs ds → VAll K F (ds.map .dat) vs
  | _, _, .nil => .nil
  | _, _, .cons h g => .cons (.dat h) (VAll.ofDats g)
end
/-- names and keys with their values -/
inductive PrAll (K : PySem.W.Frag) (F : Hp) {κ : Type} : List (κ × Av) → List (κ × V) → Prop
  | nil : PrAll K F [] []
  | cons {k : κ} {a : Av} {v : V} {as : List (κ × Av)} {vs : List (κ × V)} (h : VOk K F a v) (g : PrAll K F as vs) : PrAll K F ((k, a) :: as) ((k, v) :: vs)
inductive ObOk (K : PySem.W.Frag) (F : Hp) : Ob → HO → Prop
  | ins {C dx : Addr} {fs : List (Str × Av)} {vs : List (Str × V)} (h : PrAll K F fs vs) : ObOk K F (.ins C dx fs) (.ins C dx vs)
  | dk {kvs : List (Key × Av)} {vs : List (Key × V)} (h : PrAll K F kvs vs) : ObOk K F (.dk kvs) (.dK vs)
theorem PrAll.same {K : PySem.W.Frag} {F F' : Hp} (s : Same F F') {κ : Type} : ∀ {as : List (κ × Av)} {vs : List (κ × V)}, PrAll K F as vs → PrAll K F' as vs
  | _, _, .nil => .nil
  | _, _, .cons h g => .cons (h.same s) (PrAll.same s g)
theorem ObOk.same {K : PySem.W.Frag} {F F' : Hp} (s : Same F F') {u : Ob} {x : HO} : ObOk K F u x → ObOk K F' u x
  | .ins h => .ins (h.same s)
  | .dk h => .dk (h.same s)
theorem ObOk.nlst {K : PySem.W.Frag} {F : Hp} {u : Ob} {xs : List V} (h : ObOk K F u (.lst xs)) : False := by cases h
theorem ObOk.ntbl {K : PySem.W.Frag} {F : Hp} {u : Ob} {x : HO} (h : ObOk K F u x) : ∀ q, x ≠ .tbl q := by
  intro q z
  subst z
  cases h
inductive Slots (K : PySem.W.Frag) (F : Hp) : List (Option Av) → List (Option V) → Prop
  | nil : Slots K F [] []
  | no {x : Option V} {Γ : List (Option Av)} {σ : List (Option V)} (g : Slots K F Γ σ) : Slots K F (none :: Γ) (x :: σ)
  | yes {a : Av} {v : V} {Γ : List (Option Av)} {σ : List (Option V)} (h : VOk K F a v) (g : Slots K F Γ σ) : Slots K F (some a :: Γ) (some v :: σ)
section
variable {K : PySem.W.Frag} {F F' : Hp}
theorem Slots.same (s : Same F F') : ∀ {Γ : List (Option Av)} {σ : List (Option V)}, Slots K F Γ σ → Slots K F' Γ σ
  | _, _, .nil => .nil
  | _, _, .no g => .no (Slots.same s g)
  | _, _, .yes h g => .yes (h.same s) (Slots.same s g)
theorem Slots.get : ∀ {Γ : List (Option Av)} {σ : List (Option V)} {i : Nat} {a : Av}, Slots K F Γ σ → Γ[i]? = some (some a) → ∃ v, σ[i]? = some (some v) ∧ VOk K F a v
  | _, _, _, _, .nil, e => by simp at e
  | _, _, 0, _, .no _, e => by simp at e
  | _, _, 0, _, .yes h _, e => by
    rw [List.getElem?_cons_zero] at e
    cases e
    exact ⟨_, rfl, h⟩
  | _, _, i + 1, _, .no g, e => by
    rw [List.getElem?_cons_succ] at e
    obtain ⟨v, e2, h⟩ := Slots.get g e
    exact ⟨v, by rw [List.getElem?_cons_succ]; exact e2, h⟩
  | _, _, i + 1, _, .yes _ g, e => by
    rw [List.getElem?_cons_succ] at e
    obtain ⟨v, e2, h⟩ := Slots.get g e
    exact ⟨v, by rw [List.getElem?_cons_succ]; exact e2, h⟩
theorem Slots.set : ∀ {Γ : List (Option Av)} {σ : List (Option V)} {a : Av} {v : V} (i : Nat), Slots K F Γ σ → VOk K F a v → Slots K F (Γ.set i (some a)) (σ.set i (some v))
  | _, _, _, _, _, .nil, _ => .nil
  | _, _, _, _, 0, .no g, k => .yes k g
  | _, _, _, _, 0, .yes _ g, k => .yes k g
  | _, _, _, _, i + 1, .no g, k => .no (Slots.set i g k)
  | _, _, _, _, i + 1, .yes h g, k => .yes h (Slots.set i g k)
theorem Slots.clear : ∀ {Γ : List (Option Av)} {σ : List (Option V)} (i : Nat), Slots K F Γ σ → Slots K F (Γ.set i none) (σ.set i none)
  | _, _, _, .nil => .nil
  | _, _, 0, .no g => .no g
  | _, _, 0, .yes _ g => .no g
  | _, _, i + 1, .no g => .no (Slots.clear i g)
  | _, _, i + 1, .yes h g => .yes h (Slots.clear i g)
theorem Slots.start {N : List Str} : ∀ {as : List Av} {vs : List V}, VAll K F as vs → ∀ n, Slots K F (as.map some ++ List.replicate n none) (vs.map some ++ List.replicate n none)
  | _, _, .nil, 0 => .nil
  | _, _, .nil, n + 1 => .no (Slots.start (N := N) .nil n)
  | _, _, .cons h g, n => .yes h (Slots.start (N := N) g n)
end
def wipeA (Γ : List (Option Av)) : List Nat → List (Option Av)
  | [] => Γ
  | v :: vs => (wipeA Γ vs).set v none
theorem Slots.wipe {K : PySem.W.Frag} {F : Hp} {Γ : List (Option Av)} {σ : List (Option V)} (h : Slots K F Γ σ) : ∀ vs : List Nat, Slots K F (wipeA Γ vs) (L2.wipe σ vs)
  | [] => h
  | v :: vs => Slots.clear v (Slots.wipe h vs)
structure Ok (K : PySem.W.Frag) [Tb K] (F : Hp) (Ω : AH) (Γ : List (Option Av)) (σ : L2.St) (H : Hp) : Prop where
  fr : Same F (Fz Ω H)
  st : ∀ p as, Ω p = some as → ∃ xs, H p = some (.lst xs) ∧ VAll K (Fz Ω H) as xs
  sl : Slots K (Fz Ω H) Γ σ
  tb : LamX.Tabs (Tb.T (K := K)) H
  ob : ∀ p u, Ω.o p = some u → ∃ x, H p = some x ∧ ObOk K (Fz Ω H) u x
section
variable {K : PySem.W.Frag} [Tb K] {F F1 : Hp} {Ω : AH} {Γ : List (Option Av)} {σ : L2.St} {H H' : Hp} {p : Addr} {as : List Av} {xs : List V} {a : Av} {v : V} {i : Nat}
theorem Ok.same (k : Ok K F Ω Γ σ H) (s : Same H H') : Ok K F Ω Γ σ H' := by
  have s' := Fz_same (Ω := Ω) s
  refine ⟨k.fr.trans s', fun p as e => ?_, k.sl.same s', k.tb.ext s, fun p u e => ?_⟩
  · obtain ⟨xs, h1, h2⟩ := k.st p as e
    exact ⟨xs, s _ _ h1, h2.same s'⟩
  · obtain ⟨x, h1, h2⟩ := k.ob p u e
    exact ⟨x, s _ _ h1, h2.same s'⟩
/-- all but the tables stays, and these are still told -/
theorem Ok.ext (k : Ok K F Ω Γ σ H) (s : LamX.ExtN H H') (t : LamX.Tabs (Tb.T (K := K)) H') : Ok K F Ω Γ σ H' := by
  have s' := Fz_ext (Ω := Ω) s
  refine ⟨k.fr.trans s', fun p as e => ?_, k.sl.same s', t, fun p u e => ?_⟩
  · obtain ⟨xs, h1, h2⟩ := k.st p as e
    exact ⟨xs, s _ _ h1 (fun q z => by cases z), h2.same s'⟩
  · obtain ⟨x, h1, h2⟩ := k.ob p u e
    exact ⟨x, s _ _ h1 h2.ntbl, h2.same s'⟩
theorem Ok.re (k : Ok K F Ω Γ σ H) : Ok K (Fz Ω H) Ω Γ σ H := ⟨Same.refl _, k.st, k.sl, k.tb, k.ob⟩
theorem Ok.anchor (k : Ok K F1 Ω Γ σ H) (s : Same F F1) : Ok K F Ω Γ σ H := ⟨s.trans k.fr, k.st, k.sl, k.tb, k.ob⟩
theorem Ok.bare (k : Ok K F Ω Γ σ H) : Ok K F Ω [] [] H := ⟨k.fr, k.st, .nil, k.tb, k.ob⟩
theorem Ok.back {Ω' : AH} (k : Ok K F Ω Γ σ H) (j : Ok K (Fz Ω H) Ω' [] [] H') : Ok K F Ω' Γ σ H' := ⟨k.fr.trans j.fr, j.st, k.sl.same j.fr, j.tb, j.ob⟩
theorem Ok.val (k : Ok K F Ω Γ σ H) (e : Γ[i]? = some (some a)) : ∃ v, σ[i]? = some (some v) ∧ VOk K (Fz Ω H) a v := k.sl.get e
theorem Ok.set (k : Ok K F Ω Γ σ H) (h : VOk K (Fz Ω H) a v) (i : Nat) : Ok K F Ω (Γ.set i (some a)) (σ.set i (some v)) H := ⟨k.fr, k.st, k.sl.set i h, k.tb, k.ob⟩
theorem Ok.wipe (k : Ok K F Ω Γ σ H) (vs : List Nat) : Ok K F Ω (wipeA Γ vs) (L2.wipe σ vs) H := ⟨k.fr, k.st, k.sl.wipe vs, k.tb, k.ob⟩
theorem Ok.free (k : Ok K F Ω Γ σ H) (n : H p = none) : Ω p = none := by
  cases e : Ω p with
  | none => rfl
  | some as =>
    obtain ⟨xs, h1, _⟩ := k.st p as e
    rw [n] at h1
    cases h1
theorem Ok.off (k : Ok K F Ω Γ σ H) (n : H p = none) : Ω.Off p := ⟨k.free n, by
  cases e : Ω.o p with
  | none => rfl
  | some u =>
    obtain ⟨x, h1, _⟩ := k.ob p u e
    rw [n] at h1
    cases h1⟩
theorem Ok.noO (k : Ok K F Ω Γ σ H) (n : Ω p = some as) : Ω.o p = none := by
  cases e : Ω.o p with
  | none => rfl
  | some u =>
    obtain ⟨x, h1, h2⟩ := k.ob p u e
    obtain ⟨xs, h3, _⟩ := k.st p _ n
    rw [h1] at h3
    cases h3
    exact h2.nlst.elim
theorem Ok.noL {u : Ob} (k : Ok K F Ω Γ σ H) (n : Ω.o p = some u) : Ω p = none := by
  cases e : Ω p with
  | none => rfl
  | some as =>
    rw [k.noO e] at n
    cases n
theorem Ok.new (k : Ok K F Ω Γ σ H) (n : H p = none) (h : VAll K (Fz Ω H) as xs) : Ok K F (put Ω p as) Γ σ (upd H p (.lst xs)) := by
  have e := Fz_new (Ω := Ω) (o := .lst xs) (as := as) n
  refine ⟨by rw [e]; exact k.fr, fun q bs hq => ?_, by rw [e]; exact k.sl, k.tb.ext fun b o z => by rw [upd_ne (ne_of_none z n)]; exact z, fun q u hq => ?_⟩
  · rw [e]
    by_cases z : q = p
    · subst z
      rw [put_same] at hq
      cases hq
      exact ⟨xs, upd_same, h⟩
    · rw [put_ne z] at hq
      rw [upd_ne z]
      exact k.st q bs hq
  · rw [e]
    obtain ⟨x, h1, h2⟩ := k.ob q u hq
    rw [upd_ne (ne_of_none h1 n)]
    exact ⟨x, h1, h2⟩
theorem Ok.newo {u : Ob} {o : HO} (k : Ok K F Ω Γ σ H) (n : H p = none) (h : ObOk K (Fz Ω H) u o) : Ok K F (puto Ω p u) Γ σ (upd H p o) := by
  have e := Fz_newo (Ω := Ω) (o := o) (u := u) n
  refine ⟨by rw [e]; exact k.fr, fun q bs hq => ?_, by rw [e]; exact k.sl, k.tb.ext fun b o z => by rw [upd_ne (ne_of_none z n)]; exact z, fun q v hq => ?_⟩
  · rw [e]
    obtain ⟨xs, h1, h2⟩ := k.st q bs hq
    rw [upd_ne (ne_of_none h1 n)]
    exact ⟨xs, h1, h2⟩
  · rw [e]
    by_cases z : q = p
    · subst z
      rw [puto_same] at hq
      cases hq
      exact ⟨o, upd_same, h⟩
    · rw [puto_ne z] at hq
      rw [upd_ne z]
      exact k.ob q v hq
theorem Ok.put {bs : List Av} (k : Ok K F Ω Γ σ H) (n : Ω p = some bs) (h : VAll K (Fz Ω H) as xs) : Ok K F (Dat.put Ω p as) Γ σ (upd H p (.lst xs)) := by
  have e := Fz_put (Ω := Ω) (H := H) (o := .lst xs) (as := as) n
  obtain ⟨zs, hz, _⟩ := k.st p bs n
  refine ⟨by rw [e]; exact k.fr, fun q bs hq => ?_, by rw [e]; exact k.sl, tabs_put k.tb hz, fun q u hq => ?_⟩
  · rw [e]
    by_cases z : q = p
    · subst z
      rw [put_same] at hq
      cases hq
      exact ⟨xs, upd_same, h⟩
    · rw [put_ne z] at hq
      rw [upd_ne z]
      exact k.st q bs hq
  · rw [e]
    obtain ⟨x, h1, h2⟩ := k.ob q u hq
    have z : q ≠ p := fun z => by
      have hq' : Ω.o q = some u := hq
      rw [z, k.noO n] at hq'
      cases hq'
    rw [upd_ne z]
    exact ⟨x, h1, h2⟩
theorem tabs_puto {T : List (Addr × Str)} {H : Hp} {p : Addr} {x y : HO} (t : LamX.Tabs T H) (e : H p = some x) (h1 : ∀ q, x ≠ .tbl q) (h2 : ∀ c q, x ≠ LamX.CodeO c q) : LamX.Tabs T (upd H p y) := fun q hq => by
  obtain ⟨ps, g1, g2, g3⟩ := t q hq
  have ne : q.1 ≠ p := fun z => by
    rw [z, e] at g1
    cases g1
    exact h1 _ rfl
  refine ⟨ps, by rw [upd_ne ne]; exact g1, g2, fun pos cv hc => ?_⟩
  obtain ⟨c, e1, e2⟩ := g3 pos cv hc
  have nc : c ≠ p := fun z => by
    rw [z, e] at e2
    cases e2
    exact h2 _ _ rfl
  exact ⟨c, e1, by rw [upd_ne nc]; exact e2⟩
theorem ObOk.ncode {K : PySem.W.Frag} {F : Hp} {u : Ob} {x : HO} (h : ObOk K F u x) : ∀ c q, x ≠ LamX.CodeO c q := by
  intro c q z
  subst z
  unfold LamX.CodeO at h
  cases h
theorem Ok.puto {u v : Ob} {o : HO} (k : Ok K F Ω Γ σ H) (n : Ω.o p = some v) (h : ObOk K (Fz Ω H) u o) : Ok K F (Dat.puto Ω p u) Γ σ (upd H p o) := by
  have e := Fz_puto (Ω := Ω) (H := H) (o := o) (u := u) n
  obtain ⟨x, hx, gx⟩ := k.ob p v n
  refine ⟨by rw [e]; exact k.fr, fun q bs hq => ?_, by rw [e]; exact k.sl, tabs_puto k.tb hx gx.ntbl gx.ncode, fun q w hq => ?_⟩
  · rw [e]
    obtain ⟨xs, h1, h2⟩ := k.st q bs hq
    have z : q ≠ p := fun z => by
      subst z
      rw [k.noO hq] at n
      cases n
    rw [upd_ne z]
    exact ⟨xs, h1, h2⟩
  · rw [e]
    by_cases z : q = p
    · subst z
      rw [puto_same] at hq
      cases hq
      exact ⟨o, upd_same, h⟩
    · rw [puto_ne z] at hq
      rw [upd_ne z]
      exact k.ob q w hq
theorem same_new {o : HO} (n : H p = none) : Same H (upd H p o) := fun b x e => by
  rw [upd_ne (ne_of_none e n)]
  exact e
theorem Fz_at {Ω : AH} {p : Addr} {H : Hp} {o : HO} (n : Ω.Off p) (t : ntb (some o) = some o := by rfl) : Fz Ω (upd H p o) p = some o := by
  rw [Fz_none n, upd_same, t]
theorem Ok.frz {ds : List PyData} (k : Ok K F Ω Γ σ H) (e : Ω p = some (ds.map .dat)) : Ok K F (del Ω p) Γ σ H ∧ Dq K (Fz (del Ω p) H) (.ref p) (.list ds) := by
  have s : Same (Fz Ω H) (Fz (del Ω p) H) := Fz_del
  obtain ⟨xs, h1, h2⟩ := k.st p _ e
  refine ⟨⟨k.fr.trans s, fun q bs hq => ?_, k.sl.same s, k.tb, fun q u hq => ?_⟩, .lst ?_ (h2.same s).dats⟩
  · have hq' : Ω q = some bs := by
      unfold del at hq
      dsimp only at hq
      split at hq
      · cases hq
      · exact hq
    obtain ⟨ys, g1, g2⟩ := k.st q bs hq'
    exact ⟨ys, g1, g2.same s⟩
  · obtain ⟨x, g1, g2⟩ := k.ob q u hq
    exact ⟨x, g1, g2.same s⟩
  · exact Fz_to ⟨if_pos rfl, k.noO e⟩ h1 fun q z => by cases z
end
/-! ### what is wanted behind an expression, a test, arguments -/
def EW (K : PySem.W.Frag) [Tb K] (te : TE) (Γ : List (Option Av)) (Ω : AH) (P : Av → AH → Prop) : Prop :=
  ∀ (F : Hp) (σ : L2.St) (H : Hp) (Q : VK), Ok K F Ω Γ σ H → (∀ a v Ω' H', P a Ω' → Ok K F Ω' Γ σ H' → VOk K (Fz Ω' H') a v → Q v H') → te σ H Q
def TW (K : PySem.W.Frag) [Tb K] (tt : TT) (Γ : List (Option Av)) (Ω : AH) (P : Bool → AH → Prop) : Prop :=
  ∀ (F : Hp) (σ : L2.St) (H : Hp) (Q : Bool → Hp → Prop), Ok K F Ω Γ σ H → (∀ b Ω' H', P b Ω' → Ok K F Ω' Γ σ H' → Q b H') → tt σ H Q
def AW (K : PySem.W.Frag) [Tb K] (ta : TA) (Γ : List (Option Av)) (Ω : AH) (P : List Av → AH → Prop) : Prop :=
  ∀ (F : Hp) (σ : L2.St) (H : Hp) (Q : List V → Hp → Prop), Ok K F Ω Γ σ H → (∀ as vs Ω' H', P as Ω' → Ok K F Ω' Γ σ H' → VAll K (Fz Ω' H') as vs → Q vs H') → ta σ H Q
def OW (K : PySem.W.Frag) [Tb K] (to : TO) (Γ : List (Option Av)) (Ω : AH) (P : Option Int → AH → Prop) : Prop :=
  ∀ (F : Hp) (σ : L2.St) (H : Hp) (Q : Option Int → Hp → Prop), Ok K F Ω Γ σ H → (∀ o Ω' H', P o Ω' → Ok K F Ω' Γ σ H' → Q o H') → to σ H Q
/-- operations on values -/
def R2W (K : PySem.W.Frag) [Tb K] (r : R2) (a b : Av) (Ω : AH) (P : Av → AH → Prop) : Prop :=
  ∀ (F : Hp) (H : Hp) (x y : V) (Q : VK), Ok K F Ω [] [] H → VOk K (Fz Ω H) a x → VOk K (Fz Ω H) b y → (∀ c v Ω' H', P c Ω' → Ok K F Ω' [] [] H' → VOk K (Fz Ω' H') c v → Q v H') → r x y H Q
def R1W (K : PySem.W.Frag) [Tb K] (r : V → Hp → VK → Prop) (a : Av) (Ω : AH) (P : Av → AH → Prop) : Prop :=
  ∀ (F : Hp) (H : Hp) (x : V) (Q : VK), Ok K F Ω [] [] H → VOk K (Fz Ω H) a x → (∀ c v Ω' H', P c Ω' → Ok K F Ω' [] [] H' → VOk K (Fz Ω' H') c v → Q v H') → r x H Q
def RCW (K : PySem.W.Frag) [Tb K] (r : List V → Hp → VK → Prop) (as : List Av) (Ω : AH) (P : Av → AH → Prop) : Prop :=
  ∀ (F : Hp) (H : Hp) (xs : List V) (Q : VK), Ok K F Ω [] [] H → VAll K (Fz Ω H) as xs → (∀ c v Ω' H', P c Ω' → Ok K F Ω' [] [] H' → VOk K (Fz Ω' H') c v → Q v H') → r xs H Q
section
variable {K : PySem.W.Frag} [Tb K] {Γ : List (Option Av)} {Ω : AH} {P P' : Av → AH → Prop} {ta tb tc te : TE} {tt tu : TT} {tl : TA} {r r' : R2}
theorem EW.mono (h : EW K te Γ Ω P) (f : ∀ a Ω', P a Ω' → P' a Ω') : EW K te Γ Ω P' := fun F σ H Q k q => h F σ H Q k fun a v Ω' H' p => q a v Ω' H' (f a Ω' p)
/-- a list just made (or held alone) that is to change no more -/
theorem EW.frz (h : EW K te Γ Ω fun a Ω' => ∃ p ds, a = .ptr p ∧ Ω' p = some (ds.map .dat) ∧ P (.dat (.list ds)) (del Ω' p)) : EW K te Γ Ω P := fun F σ H Q k q =>
  h F σ H Q k fun a v Ω' H' ⟨p, ds, ea, e, hp⟩ k' hv => by
    subst ea
    cases hv
    obtain ⟨k2, d2⟩ := k'.frz e
    exact q _ _ _ _ hp k2 (.dat d2)
theorem e_var {i : Nat} {a : Av} (e : Γ[i]? = some (some a)) (h : P a Ω) : EW K (tVar i) Γ Ω P := fun F σ H Q k q => by
  obtain ⟨v, ev, hv⟩ := k.val e
  exact ⟨v, ev, q a v Ω H h k hv⟩
theorem e_int {i : Int} (h : P (.dat (.int i)) Ω) : EW K (tC (.int i)) Γ Ω P := fun F σ H Q k q => q _ _ Ω H h k (.dat (.int i))
theorem e_str {x : Str} (h : P (.dat (.str x)) Ω) : EW K (tC (.str x)) Γ Ω P := fun F σ H Q k q => q _ _ Ω H h k (.dat (.str x))
theorem e_bl {b : Bool} (h : P (.dat (.bool b)) Ω) : EW K (tC (.bl b)) Γ Ω P := fun F σ H Q k q => q _ _ Ω H h k (.dat (.bl b))
theorem e_non (h : P (.dat .none) Ω) : EW K (tC .non) Γ Ω P := fun F σ H Q k q => q _ _ Ω H h k (.dat .non)
/-- a constant of the written part -/
theorem e_K {v : V} {d : PyData} (hd : ∀ H, Dq K H v d) (h : P (.dat d) Ω) : EW K (tC v) Γ Ω P := fun F σ H Q k q => q _ _ Ω H h k (.dat (hd _))
theorem e_op (h : EW K ta Γ Ω fun a Ω1 => EW K tb Γ Ω1 fun b Ω2 => R2W K r a b Ω2 P) : EW K (tOp r ta tb) Γ Ω P := fun F σ H Q k q =>
  h F σ H _ k fun a v Ω1 H1 h1 k1 v1 => h1 (Fz Ω1 H1) σ H1 _ k1.re fun b w Ω2 H2 h2 k2 v2 =>
    h2 (Fz Ω2 H2) H2 v w Q k2.bare.re (v1.same k2.fr) v2 fun c u Ω3 H3 hp k3 v3 => q c u Ω3 H3 hp ((k2.anchor k1.fr).back k3) v3
theorem e_un {r1 : V → Hp → VK → Prop} (h : EW K ta Γ Ω fun a Ω1 => R1W K r1 a Ω1 P) : EW K (tUn r1 ta) Γ Ω P := fun F σ H Q k q =>
  h F σ H _ k fun a v Ω1 H1 h1 k1 v1 => h1 (Fz Ω1 H1) H1 v Q k1.bare.re v1 fun c u Ω3 H3 hp k3 v3 => q c u Ω3 H3 hp (k1.back k3) v3
theorem e_then {r1 : V → Hp → VK → Prop} (h : EW K ta Γ Ω fun a Ω1 => R1W K r1 a Ω1 P) : EW K (tThen ta r1) Γ Ω P := e_un h
theorem a_nil {P : List Av → AH → Prop} (h : P [] Ω) : AW K tNil Γ Ω P := fun F σ H Q k q => q [] [] Ω H h k .nil
theorem a_cons {P : List Av → AH → Prop} (h : EW K ta Γ Ω fun a Ω1 => AW K tl Γ Ω1 fun as Ω2 => P (a :: as) Ω2) : AW K (tCons ta tl) Γ Ω P := fun F σ H Q k q =>
  h F σ H _ k fun a v Ω1 H1 h1 k1 v1 => h1 (Fz Ω1 H1) σ H1 _ k1.re fun as vs Ω2 H2 h2 k2 v2 => q (a :: as) (v :: vs) Ω2 H2 h2 (k2.anchor k1.fr) (.cons (v1.same k2.fr) v2)
theorem e_cb {rc : List V → Hp → VK → Prop} (h : AW K tl Γ Ω fun as Ω1 => RCW K rc as Ω1 P) : EW K (tCB rc tl) Γ Ω P := fun F σ H Q k q =>
  h F σ H _ k fun as vs Ω1 H1 h1 k1 v1 => h1 (Fz Ω1 H1) H1 vs Q k1.bare.re v1 fun c u Ω3 H3 hp k3 v3 => q c u Ω3 H3 hp (k1.back k3) v3
theorem sz_of {n : Nat} (h : n ≤ 100000) : n ≤ sizeLine := Nat.le_trans h (by decide)
theorem sz_lt {n : Nat} (h : n < 100000) : n < sizeLine := Nat.lt_of_lt_of_le h (by decide)
/-- a tuple of data; a tuple that holds lists that change -/
theorem e_tup (h : AW K tl Γ Ω fun as Ω1 => ∃ ds, as = ds.map .dat ∧ ds.length ≤ 100000 ∧ P (.dat (.tuple ds)) Ω1) : EW K (tTup tl) Γ Ω P := fun F σ H Q k q =>
  h F σ H _ k fun as vs Ω1 H1 ⟨ds, e, hl, hp⟩ k1 v1 => by
    subst e
    have l1 := v1.length
    rw [List.length_map] at l1
    refine ⟨sz_of (by omega), fun p np => ?_⟩
    have s := same_new (o := .tup vs) np
    exact q _ _ Ω1 _ hp (k1.same s) (.dat (.tup (.inl (.inl (Fz_at (k1.off np)))) (v1.dats.same (Fz_same s))))
theorem e_tupA (h : AW K tl Γ Ω fun as Ω1 => as.length ≤ 100000 ∧ P (.tup as) Ω1) : EW K (tTup tl) Γ Ω P := fun F σ H Q k q =>
  h F σ H _ k fun as vs Ω1 H1 ⟨hl, hp⟩ k1 v1 => by
    have l1 := v1.length
    refine ⟨sz_of (by omega), fun p np => ?_⟩
    have s := same_new (o := .tup vs) np
    exact q _ _ Ω1 _ hp (k1.same s) (.tup (Fz_at (k1.off np)) (v1.same (Fz_same s)))
/-- a list of data that is to change no more; a list that may -/
theorem e_lst (h : AW K tl Γ Ω fun as Ω1 => ∃ ds, as = ds.map .dat ∧ ds.length ≤ 100000 ∧ P (.dat (.list ds)) Ω1) : EW K (tLst tl) Γ Ω P := fun F σ H Q k q =>
  h F σ H _ k fun as vs Ω1 H1 ⟨ds, e, hl, hp⟩ k1 v1 => by
    subst e
    have l1 := v1.length
    rw [List.length_map] at l1
    refine ⟨sz_of (by omega), fun p np => ?_⟩
    have s := same_new (o := .lst vs) np
    exact q _ _ Ω1 _ hp (k1.same s) (.dat (.lst (Fz_at (k1.off np)) (v1.dats.same (Fz_same s))))
theorem e_lstP (h : AW K tl Γ Ω fun as Ω1 => as.length ≤ 100000 ∧ ∀ p, Ω1 p = none → P (.ptr p) (put Ω1 p as)) : EW K (tLst tl) Γ Ω P := fun F σ H Q k q =>
  h F σ H _ k fun as vs Ω1 H1 ⟨hl, hp⟩ k1 v1 => by
    have l1 := v1.length
    exact ⟨sz_of (by omega), fun p np => q _ _ _ _ (hp p (k1.free np)) (k1.new np v1) (.ptr p)⟩
/-! tests -/
theorem t_test {P : Bool → AH → Prop} (h : EW K te Γ Ω fun a Ω' => ∃ b, a = .dat (.bool b) ∧ P b Ω') : TW K (tTest te) Γ Ω P := fun F σ H Q k q =>
  h F σ H _ k fun a v Ω' H' ⟨b, e, hp⟩ k' hv => by
    subst e
    cases hv with
    | dat hv =>
      cases hv
      exact ⟨b, rfl, q b Ω' H' hp k'⟩
theorem t_B {P : Bool → AH → Prop} (h : EW K te Γ Ω fun a Ω' => ∃ b, a = .dat (.bool b) ∧ P b Ω') : TW K (tB te) Γ Ω P := t_test h
theorem t_yes {P : Bool → AH → Prop} (h : P true Ω) : TW K tYes Γ Ω P := fun F σ H Q k q => q true Ω H h k
theorem t_not {P : Bool → AH → Prop} (h : TW K tt Γ Ω fun b Ω' => P (!b) Ω') : TW K (tNot tt) Γ Ω P := fun F σ H Q k q => h F σ H _ k fun b Ω' H' hp k' => q _ _ _ hp k'
theorem t_and {P : Bool → AH → Prop} (h : TW K tt Γ Ω fun b Ω1 => (b = true → TW K tu Γ Ω1 P) ∧ (b = false → P false Ω1)) : TW K (tAnd tt tu) Γ Ω P := fun F σ H Q k q =>
  h F σ H _ k fun b Ω1 H1 hp k1 => by
    cases b with
    | true => exact hp.1 rfl F σ H1 Q k1 q
    | false => exact q _ _ _ (hp.2 rfl) k1
theorem t_or {P : Bool → AH → Prop} (h : TW K tt Γ Ω fun b Ω1 => (b = true → P true Ω1) ∧ (b = false → TW K tu Γ Ω1 P)) : TW K (tOr tt tu) Γ Ω P := fun F σ H Q k q =>
  h F σ H _ k fun b Ω1 H1 hp k1 => by
    cases b with
    | true => exact q _ _ _ (hp.1 rfl) k1
    | false => exact hp.2 rfl F σ H1 Q k1 q
theorem e_andV (h : EW K ta Γ Ω fun a Ω1 => ∃ b, a = .dat (.bool b) ∧ (b = true → EW K tb Γ Ω1 P) ∧ (b = false → P (.dat (.bool false)) Ω1)) : EW K (tAndV ta tb) Γ Ω P := fun F σ H Q k q =>
  h F σ H _ k fun a v Ω1 H1 ⟨b, e, h1, h2⟩ k1 v1 => by
    subst e
    cases v1 with
    | dat v1 =>
      cases v1
      refine ⟨b, rfl, ?_⟩
      cases b with
      | true => exact h1 rfl F σ H1 Q k1 q
      | false => exact q _ _ _ _ (h2 rfl) k1 (.dat (.bl false))
theorem e_orV (h : EW K ta Γ Ω fun a Ω1 => ∃ b, a = .dat (.bool b) ∧ (b = true → P (.dat (.bool true)) Ω1) ∧ (b = false → EW K tb Γ Ω1 P)) : EW K (tOrV ta tb) Γ Ω P := fun F σ H Q k q =>
  h F σ H _ k fun a v Ω1 H1 ⟨b, e, h1, h2⟩ k1 v1 => by
    subst e
    cases v1 with
    | dat v1 =>
      cases v1
      refine ⟨b, rfl, ?_⟩
      cases b with
      | true => exact q _ _ _ _ (h1 rfl) k1 (.dat (.bl true))
      | false => exact h2 rfl F σ H1 Q k1 q
theorem e_notV (h : EW K ta Γ Ω fun a Ω1 => ∃ b, a = .dat (.bool b) ∧ P (.dat (.bool (!b))) Ω1) : EW K (tNotV ta) Γ Ω P := fun F σ H Q k q =>
  h F σ H _ k fun a v Ω1 H1 ⟨b, e, h1⟩ k1 v1 => by
    subst e
    cases v1 with
    | dat v1 =>
      cases v1
      exact ⟨b, rfl, q _ _ _ _ h1 k1 (.dat (.bl _))⟩
theorem e_if (h : TW K tt Γ Ω fun b Ω1 => (b = true → EW K ta Γ Ω1 P) ∧ (b = false → EW K tb Γ Ω1 P)) : EW K (tIf tt ta tb) Γ Ω P := fun F σ H Q k q =>
  h F σ H _ k fun b Ω1 H1 hp k1 => by
    cases b with
    | true => exact hp.1 rfl F σ H1 Q k1 q
    | false => exact hp.2 rfl F σ H1 Q k1 q
/-- a chain of two comparisons -/
theorem e_chain (h : EW K ta Γ Ω fun a Ω1 => EW K tb Γ Ω1 fun b Ω2 => R2W K r a b Ω2 fun c Ω3 => ∃ z, c = .dat (.bool z) ∧ (z = true → EW K tc Γ Ω3 fun d Ω4 => R2W K r' b d Ω4 P) ∧ (z = false → P (.dat (.bool false)) Ω3)) : EW K (tChain r r' ta tb tc) Γ Ω P := fun F σ H Q k q =>
  h F σ H _ k fun a v Ω1 H1 h1 k1 v1 => h1 (Fz Ω1 H1) σ H1 _ k1.re fun b w Ω2 H2 h2 k2 v2 =>
    h2 (Fz Ω2 H2) H2 v w _ k2.bare.re (v1.same k2.fr) v2 fun c u Ω3 H3 ⟨z, ec, g1, g2⟩ k3 v3 => by
      subst ec
      have k3' := (k2.anchor k1.fr).back k3
      cases v3 with
      | dat v3 =>
        cases v3
        refine ⟨z, rfl, ?_⟩
        cases z with
        | true =>
          exact g1 rfl (Fz Ω3 H3) σ H3 _ k3'.re fun d x Ω4 H4 h4 k4 v4 =>
            h4 (Fz Ω4 H4) H4 w x Q k4.bare.re ((v2.same k3.fr).same k4.fr) v4 fun e y Ω5 H5 hp k5 v5 => q e y Ω5 H5 hp ((k4.anchor k3'.fr).back k5) v5
        | false => exact q _ _ _ _ (g2 rfl) k3' (.dat (.bl false))
end
end Dat

set_option Elab.async false
set_option linter.all false
set_option maxRecDepth 100000
set_option maxHeartbeats 1000000
namespace Dat
open PySem PySem.Spec PyProof.Rows L2
/-! ### operations on data -/
def canFlat : PyData → Bool
  | .none => true
  | .bool _ => true
  | .int _ => true
  | .str _ => true
  | _ => false
/-- == of two flat data as the rules for single values tell it -/
def scalD : PyData → PyData → Bool
  | .none, .none => true | .none, .int _ => true | .int _, .none => true | .none, .bool _ => true | .bool _, .none => true | .none, .str _ => true | .str _, .none => true
  | .int _, .int _ => true | .bool _, .bool _ => true | .str _, .str _ => true
  | .int _, .str _ => true | .str _, .int _ => true | .bool _, .str _ => true | .str _, .bool _ => true
  | _, _ => false
def eqD : PyData → PyData → Bool
  | .none, .none => true
  | .int i, .int j => decide (i = j)
  | .bool a, .bool b => decide (a = b)
  | .str x, .str y => decide (x = y)
  | _, _ => false
section
variable {K : PySem.W.Frag} [Tb K] {H : Hp}
theorem dq_eq {x y : V} {d e : PyData} (hx : Dq K H x d) (hy : Dq K H y e) (h : scalD d e = true) : scal x y = true ∧ decide (x = y) = eqD d e := by
  cases hx <;> cases hy <;> first | (cases h; done) | (refine ⟨rfl, ?_⟩; simp [eqD])
mutual
theorem Dq.dp : ∀ {v : V} {d : PyData}, Dq K H v d → d.canLay0 = true → Dp K H v d
  | _, _, .non, _ => .non
  | _, _, .bl b, _ => .bl b
  | _, _, .int i, _ => .int i
  | _, _, .str x, _ => .str x
  | _, _, .lst h g, e => .lst (SqL.of h) (DqAll.dp g (by simpa [PyData.canLay0] using e))
  | _, _, .tup h g, e => .tup h (DqAll.dp g (by simpa [PyData.canLay0] using e))
  | _, _, .dct h, e => by simp [PyData.canLay0] at e
theorem DqAll.dp : ∀ {vs : List V} {ds : List PyData}, DqAll K H vs ds → PyData.canLayAll0 ds = true → DpAll K H vs ds
  | _, _, .nil, _ => .nil
  | _, _, .cons h g, e => by
    rw [PyData.canLayAll0, Bool.and_eq_true] at e
    exact .cons (Dq.dp h e.1) (DqAll.dp g e.2)
end
theorem dq_flat {v : V} {d : PyData} (h : Dq K H v d) (f : canFlat d = true) : flatV v = true := by
  cases h <;> first | rfl | cases f
theorem dqAll_flat : ∀ {vs : List V} {ds : List PyData}, DqAll K H vs ds → ds.all canFlat = true → vs.all flatV = true
  | _, _, .nil, _ => rfl
  | _, _, .cons h g, f => by
    rw [List.all_cons, Bool.and_eq_true] at f
    rw [List.all_cons, dq_flat h f.1, dqAll_flat g f.2]
    rfl
theorem dq_eqv {x y : V} {d e : PyData} (hx : Dq K H x d) (hy : Dq K H y e) (fd : canFlat d = true) (fe : canFlat e = true) : eqV x y = PyData.eqv d e := by
  cases hx <;> cases hy <;> first | (cases fd; done) | (cases fe; done) | (simp [eqV, PyData.eqv])
theorem dq_in {x : V} {d : PyData} (hx : Dq K H x d) (fd : canFlat d = true) : ∀ {ys : List V} {es : List PyData}, DqAll K H ys es → es.all canFlat = true → inV x ys = es.any fun e => PyData.eqv e d
  | _, _, .nil, _ => rfl
  | y :: ys, e :: es, .cons h g, f => by
    rw [List.all_cons, Bool.and_eq_true] at f
    have ih := dq_in hx fd g f.2
    show (eqV y x || inV x ys) = (PyData.eqv e d || es.any fun e => PyData.eqv e d)
    rw [ih, dq_eqv h hx f.1 fd]
end
def cutD {α : Type} (xs : List α) (lo hi : Option Int) : List α := (xs.drop (HT.sIx xs.length 0 lo)).take (HT.sIx xs.length xs.length hi - HT.sIx xs.length 0 lo)
section
variable {K : PySem.W.Frag} [Tb K] {F : Hp} {Γ : List (Option Av)} {Ω : AH} {P : Av → AH → Prop} {ta tb te : TE} {i j : Int} {d e : PyData} {ds es : List PyData} {p : Addr} {as : List Av}
theorem DqAll.cut {H : Hp} {vs : List V} (h : DqAll K H vs ds) (lo hi : Option Int) : DqAll K H (cutV vs lo hi) (cutD ds lo hi) := by
  unfold cutV cutD
  rw [h.length]
  exact (h.drop _).take _
theorem atI_dq {H : Hp} {vs : List V} (h : DqAll K H vs ds) (e : atI ds i = some d) : ∃ v, atI vs i = some v ∧ Dq K H v d := by
  unfold atI at e ⊢
  rw [h.length]
  cases q : ixN ds.length i with
  | none => rw [q] at e; cases e
  | some j =>
    rw [q] at e
    exact h.get e
theorem atI_va {H : Hp} {vs : List V} {a : Av} (h : VAll K H as vs) (e : atI as i = some a) : ∃ v, atI vs i = some v ∧ VOk K H a v := by
  unfold atI at e ⊢
  rw [h.length]
  cases q : ixN as.length i with
  | none => rw [q] at e; cases e
  | some j =>
    rw [q] at e
    exact h.get e
theorem r_I0i {f : Int → Int → Int} (h : P (.dat (.int (f i j))) Ω) : R2W K (rI0 fun i j => .int (f i j)) (.dat (.int i)) (.dat (.int j)) Ω P := fun F H x y Q k hx hy q => by
  cases hx with | dat hx => cases hy with | dat hy =>
    cases hx
    cases hy
    exact ⟨_, _, rfl, rfl, q _ _ _ _ h k (.dat (.int _))⟩
theorem r_I0b {f : Int → Int → Bool} (h : P (.dat (.bool (f i j))) Ω) : R2W K (rI0 fun i j => .bl (f i j)) (.dat (.int i)) (.dat (.int j)) Ω P := fun F H x y Q k hx hy q => by
  cases hx with | dat hx => cases hy with | dat hy =>
    cases hx
    cases hy
    exact ⟨_, _, rfl, rfl, q _ _ _ _ h k (.dat (.bl _))⟩
theorem r_Ii {C : Int → Int → Prop} {f : Int → Int → Int} (c : C i j) (h : P (.dat (.int (f i j))) Ω) : R2W K (rI C fun i j => .int (f i j)) (.dat (.int i)) (.dat (.int j)) Ω P := fun F H x y Q k hx hy q => by
  cases hx with | dat hx => cases hy with | dat hy =>
    cases hx
    cases hy
    exact ⟨_, _, rfl, rfl, c, q _ _ _ _ h k (.dat (.int _))⟩
theorem r_neg (h : P (.dat (.int (-i))) Ω) : R1W K (rU fun i => .int (-i)) (.dat (.int i)) Ω P := fun F H x Q k hx q => by
  cases hx with | dat hx =>
    cases hx
    exact ⟨_, rfl, q _ _ _ _ h k (.dat (.int _))⟩
theorem r_eq (s : scalD d e = true) (h : P (.dat (.bool (eqD d e))) Ω) : R2W K rEq (.dat d) (.dat e) Ω P := fun F H x y Q k hx hy q => by
  cases hx with | dat hx => cases hy with | dat hy =>
    obtain ⟨h1, h2⟩ := dq_eq hx hy s
    refine ⟨h1, ?_⟩
    rw [h2]
    exact q _ _ _ _ h k (.dat (.bl _))
theorem r_ne (s : scalD d e = true) (h : P (.dat (.bool (!eqD d e))) Ω) : R2W K rNe (.dat d) (.dat e) Ω P := fun F H x y Q k hx hy q => by
  cases hx with | dat hx => cases hy with | dat hy =>
    obtain ⟨h1, h2⟩ := dq_eq hx hy s
    refine ⟨h1, ?_⟩
    rw [h2]
    exact q _ _ _ _ h k (.dat (.bl _))
theorem shaped_lay (h : SeqAt.shaped d = true) : d.canLay0 = true := SeqAt.canLay_of_shaped h
theorem r_eqD (s1 : SeqAt.shaped d = true) (s2 : SeqAt.shaped e = true) (h : P (.dat (.bool (PyData.eqv d e))) Ω) : R2W K (rEqD K) (.dat d) (.dat e) Ω P := fun F H x y Q k hx hy q => by
  cases hx with | dat hx => cases hy with | dat hy =>
    exact ⟨d, e, (hx.same Fz_le).dp (shaped_lay s1), (hy.same Fz_le).dp (shaped_lay s2), s1, s2, q _ _ _ _ h k (.dat (.bl _))⟩
theorem r_neD (s1 : SeqAt.shaped d = true) (s2 : SeqAt.shaped e = true) (h : P (.dat (.bool (!PyData.eqv d e))) Ω) : R2W K (rNeD K) (.dat d) (.dat e) Ω P := fun F H x y Q k hx hy q => by
  cases hx with | dat hx => cases hy with | dat hy =>
    exact ⟨d, e, (hx.same Fz_le).dp (shaped_lay s1), (hy.same Fz_le).dp (shaped_lay s2), s1, s2, q _ _ _ _ h k (.dat (.bl _))⟩
def rIsNo : R2 := fun x y H Q => y = .non ∧ Q (.bl (decide (x = .non))) H
def rNotNo : R2 := fun x y H Q => y = .non ∧ Q (.bl (!decide (x = .non))) H
theorem op_isNo {X : Cx} : OpR X (compareOp .Is) rIsNo := op_isN
theorem op_notNo {X : Cx} : OpR X (compareOp .IsNot) rNotNo := op_notN
def isNone : PyData → Bool
  | .none => true
  | _ => false
theorem dq_none {H : Hp} {v : V} (h : Dq K H v d) : decide (v = .non) = isNone d := by
  cases h <;> simp [isNone]
theorem r_isN (h : P (.dat (.bool (isNone d))) Ω) : R2W K rIsNo (.dat d) (.dat .none) Ω P := fun F H x y Q k hx hy q => by
  cases hx with | dat hx => cases hy with | dat hy =>
    cases hy
    refine ⟨rfl, ?_⟩
    rw [dq_none hx]
    exact q _ _ _ _ h k (.dat (.bl _))
theorem r_notN (h : P (.dat (.bool (!isNone d))) Ω) : R2W K rNotNo (.dat d) (.dat .none) Ω P := fun F H x y Q k hx hy q => by
  cases hx with | dat hx => cases hy with | dat hy =>
    cases hy
    refine ⟨rfl, ?_⟩
    rw [dq_none hx]
    exact q _ _ _ _ h k (.dat (.bl _))
/-! items -/
theorem r_ixT (a : atI ds i = some d) (h : P (.dat d) Ω) : R2W K (rIxT K) (.dat (.tuple ds)) (.dat (.int i)) Ω P := fun F H x y Q k hx hy q => by
  cases hx with | dat hx => cases hy with | dat hy =>
    cases hy
    cases hx with | tup hs g =>
      obtain ⟨v, e, hv⟩ := atI_dq g a
      exact ⟨_, _, _, v, rfl, rfl, sqT_same Fz_le hs, e, q _ _ _ _ h k (.dat hv)⟩
theorem r_ixL (a : atI ds i = some d) (h : P (.dat d) Ω) : R2W K (rIxL K) (.dat (.list ds)) (.dat (.int i)) Ω P := fun F H x y Q k hx hy q => by
  cases hx with | dat hx => cases hy with | dat hy =>
    cases hy
    cases hx with | lst hs g =>
      obtain ⟨v, e, hv⟩ := atI_dq g a
      exact ⟨_, _, _, v, rfl, rfl, SqL.of (Fz_le _ _ hs), e, q _ _ _ _ h k (.dat hv)⟩
theorem r_ixP {a : Av} (o : Ω p = some as) (a' : atI as i = some a) (h : P a Ω) : R2W K (rIxL K) (.ptr p) (.dat (.int i)) Ω P := fun F H x y Q k hx hy q => by
  cases hx
  cases hy with | dat hy =>
    cases hy
    obtain ⟨xs, h1, h2⟩ := k.st p as o
    obtain ⟨v, e, hv⟩ := atI_va h2 a'
    exact ⟨p, xs, i, v, rfl, rfl, SqL.of h1, e, q _ _ _ _ h k hv⟩
theorem r_ixS {ns : List Int} {n : Int} (a : atI ns i = some n) (h : P (.dat (.int n)) Ω) : R2W K (rIxL K) (.scr ns) (.dat (.int i)) Ω P := fun F H x y Q k hx hy q => by
  cases hx with | scr hs => cases hy with | dat hy =>
    cases hy
    refine ⟨_, _, _, .int n, rfl, rfl, Same.seq Fz_le hs, ?_, q _ _ _ _ h k (.dat (.int n))⟩
    unfold atI at a ⊢
    rw [List.length_map]
    cases e : ixN ns.length i with
    | none => rw [e] at a; cases a
    | some j =>
      rw [e] at a
      show (ns.map V.int)[j]? = _
      rw [List.getElem?_map, show ns[j]? = some n from a]
      rfl
theorem r_inT {neg : Bool} (fd : canFlat d = true) (fe : ds.all canFlat = true) (h : P (.dat (.bool (if neg then !(ds.any fun e => PyData.eqv e d) else ds.any fun e => PyData.eqv e d))) Ω) : R2W K (rIn K neg) (.dat d) (.dat (.tuple ds)) Ω P := fun F H x y Q k hx hy q => by
  cases hx with | dat hx => cases hy with | dat hy => cases hy with | tup hs g =>
    refine ⟨_, _, rfl, .inr (sqT_same Fz_le hs), dq_flat hx fd, dqAll_flat g fe, ?_⟩
    rw [dq_in hx fd g fe]
    exact q _ _ _ _ h k (.dat (.bl _))
theorem r_inL {neg : Bool} (fd : canFlat d = true) (fe : ds.all canFlat = true) (h : P (.dat (.bool (if neg then !(ds.any fun e => PyData.eqv e d) else ds.any fun e => PyData.eqv e d))) Ω) : R2W K (rIn K neg) (.dat d) (.dat (.list ds)) Ω P := fun F H x y Q k hx hy q => by
  cases hx with | dat hx => cases hy with | dat hy => cases hy with | lst hs g =>
    refine ⟨_, _, rfl, .inl (SqL.of (Fz_le _ _ hs)), dq_flat hx fd, dqAll_flat g fe, ?_⟩
    rw [dq_in hx fd g fe]
    exact q _ _ _ _ h k (.dat (.bl _))
/-! sums of tuples and lists, parts -/
theorem tup_new {F : Hp} {H : Hp} {xs : List V} {Γ : List (Option Av)} {σ : L2.St} (k : Ok K F Ω Γ σ H) (np : H p = none) (g : DqAll K (Fz Ω H) xs ds) : Dq K (Fz Ω (upd H p (.tup xs))) (.ref p) (.tuple ds) :=
  .tup (.inl (.inl (Fz_at (k.off np)))) (g.same (Fz_same (same_new np)))
theorem lst_new {F : Hp} {H : Hp} {xs : List V} {Γ : List (Option Av)} {σ : L2.St} (k : Ok K F Ω Γ σ H) (np : H p = none) (g : DqAll K (Fz Ω H) xs ds) : Dq K (Fz Ω (upd H p (.lst xs))) (.ref p) (.list ds) :=
  .lst (Fz_at (k.off np)) (g.same (Fz_same (same_new np)))
theorem r_catT (hl : ds.length + es.length ≤ 100000) (h : P (.dat (.tuple (ds ++ es))) Ω) : R2W K (rCatA K) (.dat (.tuple ds)) (.dat (.tuple es)) Ω P := fun F H x y Q k hx hy q => by
  cases hx with | dat hx => cases hy with | dat hy => cases hx with | tup h1 g1 => cases hy with | tup h2 g2 =>
    have l1 := g1.length
    have l2 := g2.length
    refine ⟨_, _, _, _, rfl, rfl, sqT_same Fz_le h1, sqT_same Fz_le h2, sz_of (by omega), fun e => ?_, fun _ e => ?_, fun _ _ p np => ?_⟩
    · subst e
      cases g1
      exact q _ _ _ _ h k (.dat (.tup h2 g2))
    · subst e
      cases g2
      rw [List.append_nil] at h
      exact q _ _ _ _ h k (.dat (.tup h1 g1))
    · exact q _ _ _ _ h (k.same (same_new np)) (.dat (tup_new k np (g1.app g2)))
theorem r_catL (hl : ds.length + es.length ≤ 100000) (h : P (.dat (.list (ds ++ es))) Ω) : R2W K rCat (.dat (.list ds)) (.dat (.list es)) Ω P := fun F H x y Q k hx hy q => by
  cases hx with | dat hx => cases hy with | dat hy => cases hx with | lst h1 g1 => cases hy with | lst h2 g2 =>
    have l1 := g1.length
    have l2 := g2.length
    exact ⟨_, _, _, _, rfl, rfl, Fz_le _ _ h1, Fz_le _ _ h2, sz_of (by omega), fun p np => q _ _ _ _ h (k.same (same_new np)) (.dat (lst_new k np (g1.app g2)))⟩
/-- the first a list that may change, the sum one that may change too -/
theorem r_catPP {bs : List Av} {p2 : Addr} (o1 : Ω p = some as) (o2 : Ω p2 = some bs) (hl : as.length + bs.length ≤ 100000) (h : ∀ q, Ω q = none → P (.ptr q) (put Ω q (as ++ bs))) : R2W K rCat (.ptr p) (.ptr p2) Ω P := fun F H x y Q k hx hy q => by
  cases hx
  cases hy
  obtain ⟨xs, h1, g1⟩ := k.st p as o1
  obtain ⟨ys, h2, g2⟩ := k.st p2 bs o2
  have l1 := g1.length
  have l2 := g2.length
  exact ⟨_, _, _, _, rfl, rfl, h1, h2, sz_of (by omega), fun z nz => q _ _ _ _ (h z (k.free nz)) (k.new nz (g1.app g2)) (.ptr z)⟩
theorem VAll.ofL {H : Hp} {a : Addr} (h : Dq K H (.ref a) (.list ds)) : ∃ xs, H a = some (.lst xs) ∧ VAll K H (ds.map .dat) xs := by
  cases h with | lst h g => exact ⟨_, h, .ofDats g⟩
theorem r_catPL (o1 : Ω p = some as) (hl : as.length + ds.length ≤ 100000) (h : ∀ q, Ω q = none → P (.ptr q) (put Ω q (as ++ ds.map .dat))) : R2W K rCat (.ptr p) (.dat (.list ds)) Ω P := fun F H x y Q k hx hy q => by
  cases hx
  cases hy with | dat hy => cases hy with | lst h2 g2 =>
    obtain ⟨xs, h1, g1⟩ := k.st p as o1
    have l1 := g1.length
    have l2 := g2.length
    exact ⟨_, _, _, _, rfl, rfl, h1, Fz_le _ _ h2, sz_of (by omega), fun z nz => q _ _ _ _ (h z (k.free nz)) (k.new nz (g1.app (.ofDats g2))) (.ptr z)⟩
/-! slices -/
theorem o_no {P : Option Int → AH → Prop} (h : P none Ω) : OW K tNoPart Γ Ω P := fun F σ H Q k q => q _ _ _ h k
theorem o_some {P : Option Int → AH → Prop} (h : EW K te Γ Ω fun a Ω1 => ∃ i, a = .dat (.int i) ∧ P (some i) Ω1) : OW K (tPart te) Γ Ω P := fun F σ H Q k q =>
  h F σ H _ k fun a v Ω1 H1 ⟨i, e, hp⟩ k1 v1 => by
    subst e
    cases v1 with | dat v1 =>
      cases v1
      exact ⟨i, rfl, q _ _ _ hp k1⟩
theorem e_slT {tl th : TO} (h : EW K te Γ Ω fun a Ω1 => ∃ ds, a = .dat (.tuple ds) ∧ OW K tl Γ Ω1 fun lo Ω2 => OW K th Γ Ω2 fun hi Ω3 => P (.dat (.tuple (cutD ds lo hi))) Ω3) : EW K (tSl (rSlA K) te tl th) Γ Ω P := fun F σ H Q k q =>
  h F σ H _ k fun a v Ω1 H1 ⟨ds, e, h1⟩ k1 v1 => by
    subst e
    cases v1 with | dat v1 =>
      refine h1 (Fz Ω1 H1) σ H1 _ k1.re fun lo Ω2 H2 h2 k2 => h2 (Fz Ω2 H2) σ H2 _ k2.re fun hi Ω3 H3 h3 k3 => ?_
      have k3' := k3.anchor (k1.fr.trans k2.fr)
      have v3 := (v1.same k2.fr).same k3.fr
      cases v3 with | tup hs g =>
        have l := g.length
        refine ⟨_, _, rfl, sqT_same Fz_le hs, fun w => ?_, fun _ p np => ?_⟩
        · have e2 : cutD ds lo hi = ds := by
            unfold cutD
            rw [← l, w.1, w.2]
            rw [List.drop_zero, l]
            exact List.take_of_length_le (by omega)
          have h4 : P (.dat (.tuple (cutD ds lo hi))) Ω3 := h3
          rw [e2] at h4
          exact q _ _ _ _ h4 k3' (.dat (.tup hs g))
        · exact q _ _ _ _ h3 (k3'.same (same_new np)) (.dat (tup_new k3' np (g.cut lo hi)))
theorem e_slL {tl th : TO} (h : EW K te Γ Ω fun a Ω1 => ∃ ds, a = .dat (.list ds) ∧ OW K tl Γ Ω1 fun lo Ω2 => OW K th Γ Ω2 fun hi Ω3 => P (.dat (.list (cutD ds lo hi))) Ω3) : EW K (tSl (rSlL K) te tl th) Γ Ω P := fun F σ H Q k q =>
  h F σ H _ k fun a v Ω1 H1 ⟨ds, e, h1⟩ k1 v1 => by
    subst e
    cases v1 with | dat v1 =>
      refine h1 (Fz Ω1 H1) σ H1 _ k1.re fun lo Ω2 H2 h2 k2 => h2 (Fz Ω2 H2) σ H2 _ k2.re fun hi Ω3 H3 h3 k3 => ?_
      have k3' := k3.anchor (k1.fr.trans k2.fr)
      have v3 := (v1.same k2.fr).same k3.fr
      cases v3 with | lst hs g =>
        exact ⟨_, _, rfl, SqL.of (Fz_le _ _ hs), fun p np => q _ _ _ _ h3 (k3'.same (same_new np)) (.dat (lst_new k3' np (g.cut lo hi)))⟩
/-! ### calls of built-ins -/
def rLenQ (K : PySem.W.Frag) : List V → Hp → VK → Prop := fun xs H Q => ∃ p ys, xs = [.ref p] ∧ (SqL K H p ys ∨ SqT K H p ys) ∧ Q (.int ys.length) H
theorem cl_len {X : Cx} : CallR X (.builtin "len") (rLenQ X.K) := call_len_seq
theorem c_lenT (h : P (.dat (.int ds.length)) Ω) : RCW K (rLenQ K) [.dat (.tuple ds)] Ω P := fun F H xs Q k hx q => by
  cases hx with | cons hx g => cases g; cases hx with | dat hx => cases hx with | tup hs g =>
    refine ⟨_, _, rfl, .inr (sqT_same Fz_le hs), ?_⟩
    rw [g.length]
    exact q _ _ _ _ h k (.dat (.int _))
theorem c_lenL (h : P (.dat (.int ds.length)) Ω) : RCW K (rLenQ K) [.dat (.list ds)] Ω P := fun F H xs Q k hx q => by
  cases hx with | cons hx g => cases g; cases hx with | dat hx => cases hx with | lst hs g =>
    refine ⟨_, _, rfl, .inl (SqL.of (Fz_le _ _ hs)), ?_⟩
    rw [g.length]
    exact q _ _ _ _ h k (.dat (.int _))
theorem c_lenP (o : Ω p = some as) (h : P (.dat (.int as.length)) Ω) : RCW K (rLenQ K) [.ptr p] Ω P := fun F H xs Q k hx q => by
  cases hx with | cons hx g =>
    cases g
    cases hx
    obtain ⟨ys, h1, h2⟩ := k.st p as o
    refine ⟨p, ys, rfl, .inl (SqL.of h1), ?_⟩
    rw [h2.length]
    exact q _ _ _ _ h k (.dat (.int _))
theorem c_lenS {ns : List Int} (h : P (.dat (.int ns.length)) Ω) : RCW K (rLenQ K) [.scr ns] Ω P := fun F H xs Q k hx q => by
  cases hx with | cons hx g => cases g; cases hx with | scr hs =>
    refine ⟨_, _, rfl, .inl (Same.seq Fz_le hs), ?_⟩
    rw [List.length_map]
    exact q _ _ _ _ h k (.dat (.int _))
def rAbsQ : List V → Hp → VK → Prop := fun xs H Q => ∃ i, xs = [.int i] ∧ Q (.int (if i < 0 then -i else i)) H
theorem cl_abs {X : Cx} : CallR X (.builtin "abs") rAbsQ := call_abs
theorem c_abs (h : P (.dat (.int (if i < 0 then -i else i))) Ω) : RCW K rAbsQ [.dat (.int i)] Ω P := fun F H xs Q k hx q => by
  cases hx with | cons hx g => cases g; cases hx with | dat hx =>
    cases hx
    exact ⟨i, rfl, q _ _ _ _ h k (.dat (.int _))⟩
def rMax2Q : List V → Hp → VK → Prop := fun xs H Q => ∃ i j, xs = [.int i, .int j] ∧ Q (.int (if j > i then j else i)) H
def rMin2Q : List V → Hp → VK → Prop := fun xs H Q => ∃ i j, xs = [.int i, .int j] ∧ Q (.int (if j < i then j else i)) H
theorem cl_max2 {X : Cx} (hc : X.calm = true) : CallR X (.builtin "max") rMax2Q := call_max2 hc
theorem cl_min2 {X : Cx} (hc : X.calm = true) : CallR X (.builtin "min") rMin2Q := call_min2 hc
theorem c_max2 (h : P (.dat (.int (if j > i then j else i))) Ω) : RCW K rMax2Q [.dat (.int i), .dat (.int j)] Ω P := fun F H xs Q k hx q => by
  cases hx with | cons hx g => cases g with | cons hy g => cases g; cases hx with | dat hx => cases hy with | dat hy =>
    cases hx
    cases hy
    exact ⟨i, j, rfl, q _ _ _ _ h k (.dat (.int _))⟩
theorem c_min2 (h : P (.dat (.int (if j < i then j else i))) Ω) : RCW K rMin2Q [.dat (.int i), .dat (.int j)] Ω P := fun F H xs Q k hx q => by
  cases hx with | cons hx g => cases g with | cons hy g => cases g; cases hx with | dat hx => cases hy with | dat hy =>
    cases hx
    cases hy
    exact ⟨i, j, rfl, q _ _ _ _ h k (.dat (.int _))⟩
def rIntQ : List V → Hp → VK → Prop := fun xs H Q => (∃ i, xs = [.int i] ∧ Q (.int i) H) ∨ ∃ k, xs = [.bl k] ∧ Q (.int (if k then 1 else 0)) H
theorem cl_int {X : Cx} : CallR X (.type "int") rIntQ := call_int1
theorem c_intI (h : P (.dat (.int i)) Ω) : RCW K rIntQ [.dat (.int i)] Ω P := fun F H xs Q k hx q => by
  cases hx with | cons hx g => cases g; cases hx with | dat hx =>
    cases hx
    exact .inl ⟨i, rfl, q _ _ _ _ h k (.dat (.int _))⟩
theorem c_intB {b : Bool} (h : P (.dat (.int (if b then 1 else 0))) Ω) : RCW K rIntQ [.dat (.bool b)] Ω P := fun F H xs Q k hx q => by
  cases hx with | cons hx g => cases g; cases hx with | dat hx =>
    cases hx
    exact .inr ⟨b, rfl, q _ _ _ _ h k (.dat (.int _))⟩
theorem dq_intsL {H : Hp} {v : V} {ns : List Int} (h : Dq K H v (.list (ns.map PyData.int))) : ∃ a, v = .ref a ∧ H a = some (.lst (ns.map V.int)) := by
  cases h with | lst h g =>
    rw [g.ints] at h
    exact ⟨_, rfl, h⟩
theorem c_sum {ns : List Int} (h : P (.dat (.int ns.sum)) Ω) : RCW K (rSum K) [.dat (.list (ns.map PyData.int))] Ω P := fun F H xs Q k hx q => by
  cases hx with | cons hx g => cases g; cases hx with | dat hx =>
    obtain ⟨a, rfl, ha⟩ := dq_intsL hx
    exact ⟨a, ns, rfl, SqL.of (Fz_le _ _ ha), q _ _ _ _ h k (.dat (.int _))⟩
theorem c_max {ns : List Int} (ne : 0 < ns.length) (h : ∀ m, m ∈ ns → (∀ y, y ∈ ns → y ≤ m) → P (.dat (.int m)) Ω) : RCW K (rMax K) [.dat (.list (ns.map PyData.int))] Ω P := fun F H xs Q k hx q => by
  cases hx with | cons hx g => cases g; cases hx with | dat hx =>
    obtain ⟨a, rfl, ha⟩ := dq_intsL hx
    exact ⟨a, ns, rfl, SqL.of (Fz_le _ _ ha), ne, fun m h1 h2 => q _ _ _ _ (h m h1 h2) k (.dat (.int _))⟩
theorem c_min {ns : List Int} (ne : 0 < ns.length) (h : ∀ m, m ∈ ns → (∀ y, y ∈ ns → m ≤ y) → P (.dat (.int m)) Ω) : RCW K (rMin K) [.dat (.list (ns.map PyData.int))] Ω P := fun F H xs Q k hx q => by
  cases hx with | cons hx g => cases g; cases hx with | dat hx =>
    obtain ⟨a, rfl, ha⟩ := dq_intsL hx
    exact ⟨a, ns, rfl, SqL.of (Fz_le _ _ ha), ne, fun m h1 h2 => q _ _ _ _ (h m h1 h2) k (.dat (.int _))⟩
theorem c_sorted {ns : List Int} (l : ns.length < 64) (h : ∀ ns' : List Int, ns'.Perm ns → ns'.Pairwise (· ≤ ·) → P (.dat (.list (ns'.map PyData.int))) Ω) : RCW K (rSorted K) [.dat (.list (ns.map PyData.int))] Ω P := fun F H xs Q k hx q => by
  cases hx with | cons hx g => cases g; cases hx with | dat hx =>
    obtain ⟨a, rfl, ha⟩ := dq_intsL hx
    exact ⟨a, ns, rfl, SqL.of (Fz_le _ _ ha), l, fun ns' p h1 h2 np => q _ _ _ _ (h ns' h1 h2) (k.same (same_new np)) (.dat (lst_new k np .ofInts))⟩
theorem dq_bools : ∀ {H : Hp} {bs : List Bool} {vs : List V}, DqAll K H vs (bs.map PyData.bool) → vs = bs.map V.bl
  | _, [], _, h => by cases h; rfl
  | _, b :: r, _, h => by
    rw [List.map_cons] at h
    cases h with | cons h g =>
      cases h
      rw [dq_bools g, List.map_cons]
theorem c_all {bs : List Bool} (h : P (.dat (.bool (bs.all id))) Ω) : RCW K (rAll K) [.dat (.list (bs.map PyData.bool))] Ω P := fun F H xs Q k hx q => by
  cases hx with | cons hx g => cases g; cases hx with | dat hx => cases hx with | lst hs g =>
    rw [dq_bools g] at hs
    exact ⟨_, bs, rfl, SqL.of (Fz_le _ _ hs), q _ _ _ _ h k (.dat (.bl _))⟩
theorem c_any {bs : List Bool} (h : P (.dat (.bool (bs.any id))) Ω) : RCW K (rAny K) [.dat (.list (bs.map PyData.bool))] Ω P := fun F H xs Q k hx q => by
  cases hx with | cons hx g => cases g; cases hx with | dat hx => cases hx with | lst hs g =>
    rw [dq_bools g] at hs
    exact ⟨_, bs, rfl, SqL.of (Fz_le _ _ hs), q _ _ _ _ h k (.dat (.bl _))⟩
/-! isinstance -/
def kindD : PyData → String
  | .none => "NoneType"
  | .bool _ => "bool"
  | .int _ => "int"
  | .str _ => "str"
  | .list _ => "list"
  | .tuple _ => "tuple"
  | .dict _ => "dict"
theorem dq_ty {H : Hp} {v : V} (h : Dq K H v d) : TyX K H v (.type (kindD d)) := by
  cases h with
  | non => exact .base .non
  | bl b => exact .base (.bl b)
  | int i => exact .base (.int i)
  | str x => exact .base (.str x)
  | lst h _ => exact .base (.lst h)
  | tup h _ =>
    rcases h with (h | ⟨o, h⟩) | ⟨o, its, n, h, hc, _⟩
    · exact .base (.tup h)
    · exact .fTuple h
    · exact .kTuple h hc
  | dct h => exact .base (.dK h)
def isIntD : PyData → Bool
  | .int _ => true
  | .bool _ => true
  | _ => false
def isBoolD : PyData → Bool
  | .bool _ => true
  | _ => false
def isStrD : PyData → Bool
  | .str _ => true
  | _ => false
def isTupD : PyData → Bool
  | .tuple _ => true
  | _ => false
def isLstD : PyData → Bool
  | .list _ => true
  | _ => false
theorem kit_int : kitB (kindD d) "int" = some (isIntD d) := by cases d <;> (simp only [kindD, isIntD]; decide +kernel)
theorem kit_bool : kitB (kindD d) "bool" = some (isBoolD d) := by cases d <;> (simp only [kindD, isBoolD]; decide +kernel)
theorem kit_str : kitB (kindD d) "str" = some (isStrD d) := by cases d <;> (simp only [kindD, isStrD]; decide +kernel)
theorem kit_tuple : kitB (kindD d) "tuple" = some (isTupD d) := by cases d <;> (simp only [kindD, isTupD]; decide +kernel)
theorem kit_list : kitB (kindD d) "list" = some (isLstD d) := by cases d <;> (simp only [kindD, isLstD]; decide +kernel)
theorem e_ty {T : String} (h : P (.ty T) Ω) : EW K (tC (.ty T)) Γ Ω P := fun F σ H Q k q => q _ _ Ω H h k (.ty T)
theorem c_isi {T : String} {b : Bool} (e : kitB (kindD d) T = some b) (h : P (.dat (.bool b)) Ω) : RCW K (rIsi K) [.dat d, .ty T] Ω P := fun F H xs Q k hx q => by
  cases hx with | cons hx g => cases g with | cons hy g => cases g; cases hx with | dat hx => cases hy with | ty T =>
    exact ⟨_, _, _, _, b, rfl, .ty T, dq_ty (hx.same Fz_le), kit_ty e, q _ _ _ _ h k (.dat (.bl _))⟩
theorem c_isiP {T : String} {b : Bool} (o : Ω p = some as) (e : kitB "list" T = some b) (h : P (.dat (.bool b)) Ω) : RCW K (rIsi K) [.ptr p, .ty T] Ω P := fun F H xs Q k hx q => by
  cases hx with | cons hx g => cases g with | cons hy g =>
    cases g
    cases hx
    cases hy with | ty T =>
      obtain ⟨ys, h1, h2⟩ := k.st p as o
      exact ⟨_, _, _, _, b, rfl, .ty T, .base (.lst h1), kit_ty e, q _ _ _ _ h k (.dat (.bl _))⟩
/-! tuple(x), list(x) -/
theorem r_tupL (h : P (.dat (.tuple ds)) Ω) : R1W K (kTup K) (.dat (.list ds)) Ω P := fun F H x Q k hx q => by
  cases hx with | dat hx => cases hx with | lst hs g =>
    exact .inl ⟨_, _, rfl, SqL.of (Fz_le _ _ hs), fun p np => q _ _ _ _ h (k.same (same_new np)) (.dat (tup_new k np g))⟩
theorem r_tupT (h : P (.dat (.tuple ds)) Ω) : R1W K (kTup K) (.dat (.tuple ds)) Ω P := fun F H x Q k hx q => by
  cases hx with | dat hx => cases hx with | tup hs g =>
    exact .inr ⟨_, _, rfl, sqT_same Fz_le hs, q _ _ _ _ h k (.dat (.tup hs g))⟩
theorem r_tupP (o : Ω p = some (ds.map .dat)) (h : P (.dat (.tuple ds)) (del Ω p)) : R1W K (kTup K) (.ptr p) Ω P := fun F H x Q k hx q => by
  cases hx
  obtain ⟨k2, d2⟩ := k.frz o
  cases d2 with | lst hs g =>
    exact .inl ⟨_, _, rfl, SqL.of (Fz_le _ _ hs), fun u nu => q _ _ _ _ h (k2.same (same_new nu)) (.dat (tup_new k2 nu g))⟩
def rListQ (K : PySem.W.Frag) : List V → Hp → VK → Prop := fun xs H Q => ∃ p ys, xs = [.ref p] ∧ (SqL K H p ys ∨ SqT K H p ys) ∧ ∀ l, H l = none → Q (.ref l) (upd H l (.lst ys))
theorem cl_list {X : Cx} : CallR X (.type "list") (rListQ X.K) := call_list_of
theorem c_listT (h : P (.dat (.list ds)) Ω) : RCW K (rListQ K) [.dat (.tuple ds)] Ω P := fun F H xs Q k hx q => by
  cases hx with | cons hx g => cases g; cases hx with | dat hx => cases hx with | tup hs g =>
    exact ⟨_, _, rfl, .inr (sqT_same Fz_le hs), fun l nl => q _ _ _ _ h (k.same (same_new nl)) (.dat (lst_new k nl g))⟩
theorem c_listL (h : P (.dat (.list ds)) Ω) : RCW K (rListQ K) [.dat (.list ds)] Ω P := fun F H xs Q k hx q => by
  cases hx with | cons hx g => cases g; cases hx with | dat hx => cases hx with | lst hs g =>
    exact ⟨_, _, rfl, .inl (SqL.of (Fz_le _ _ hs)), fun l nl => q _ _ _ _ h (k.same (same_new nl)) (.dat (lst_new k nl g))⟩
theorem c_listTP (h : ∀ l, Ω l = none → P (.ptr l) (put Ω l (ds.map .dat))) : RCW K (rListQ K) [.dat (.tuple ds)] Ω P := fun F H xs Q k hx q => by
  cases hx with | cons hx g => cases g; cases hx with | dat hx => cases hx with | tup hs g =>
    exact ⟨_, _, rfl, .inr (sqT_same Fz_le hs), fun l nl => q _ _ _ _ (h l (k.free nl)) (k.new nl (.ofDats g)) (.ptr l)⟩
theorem c_listLP (h : ∀ l, Ω l = none → P (.ptr l) (put Ω l (ds.map .dat))) : RCW K (rListQ K) [.dat (.list ds)] Ω P := fun F H xs Q k hx q => by
  cases hx with | cons hx g => cases g; cases hx with | dat hx => cases hx with | lst hs g =>
    exact ⟨_, _, rfl, .inl (SqL.of (Fz_le _ _ hs)), fun l nl => q _ _ _ _ (h l (k.free nl)) (k.new nl (.ofDats g)) (.ptr l)⟩
end
end Dat

set_option Elab.async false
set_option linter.all false
set_option maxRecDepth 100000
set_option maxHeartbeats 1000000
namespace Dat
open PySem PySem.Spec PyProof.Rows L2
/-! ### targets -/
def GW (K : PySem.W.Frag) [Tb K] (g : TG) (a : Av) (Γ : List (Option Av)) (Ω : AH) (P : List (Option Av) → AH → Prop) : Prop :=
  ∀ (F : Hp) (σ : L2.St) (H : Hp) (v : V) (Q : L2.St → Hp → Prop), Ok K F Ω Γ σ H → VOk K (Fz Ω H) a v → (∀ Γ' σ' Ω' H', P Γ' Ω' → Ok K F Ω' Γ' σ' H' → Q σ' H') → g v σ H Q
def GsW (K : PySem.W.Frag) [Tb K] (g : TGs) (as : List Av) (Γ : List (Option Av)) (Ω : AH) (P : List (Option Av) → AH → Prop) : Prop :=
  ∀ (F : Hp) (σ : L2.St) (H : Hp) (vs : List V) (Q : L2.St → Hp → Prop), Ok K F Ω Γ σ H → VAll K (Fz Ω H) as vs → (∀ Γ' σ' Ω' H', P Γ' Ω' → Ok K F Ω' Γ' σ' H' → Q σ' H') → g vs σ H Q
structure EndA where
  nx : List (Option Av) → AH → Prop
  rt : Av → AH → Prop
  bk : List (Option Av) → AH → Prop := fun _ _ => False
  ct : List (Option Av) → AH → Prop := fun _ _ => False
structure EndOk (K : PySem.W.Frag) [Tb K] (F : Hp) (E : EndA) (D : Ends) : Prop where
  nx : ∀ Γ σ Ω H, E.nx Γ Ω → Ok K F Ω Γ σ H → D.nx σ H
  rt : ∀ a v Ω H, E.rt a Ω → Ok K F Ω [] [] H → VOk K (Fz Ω H) a v → D.rt v H
  bk : ∀ Γ σ Ω H, E.bk Γ Ω → Ok K F Ω Γ σ H → D.bk σ H
  ct : ∀ Γ σ Ω H, E.ct Γ Ω → Ok K F Ω Γ σ H → D.ct σ H
def SW (K : PySem.W.Frag) [Tb K] (ts : TS) (Γ : List (Option Av)) (Ω : AH) (E : EndA) : Prop :=
  ∀ (F : Hp) (σ : L2.St) (H : Hp) (D : Ends), Ok K F Ω Γ σ H → EndOk K F E D → ts D σ H
theorem EndOk.anchor {K : PySem.W.Frag} [Tb K] {F F1 : Hp} {E : EndA} {D : Ends} (e : EndOk K F E D) (s : Same F F1) : EndOk K F1 E D :=
  ⟨fun Γ σ Ω H h k => e.nx Γ σ Ω H h (k.anchor s), fun a v Ω H h k => e.rt a v Ω H h (k.anchor s), fun Γ σ Ω H h k => e.bk Γ σ Ω H h (k.anchor s), fun Γ σ Ω H h k => e.ct Γ σ Ω H h (k.anchor s)⟩
section
variable {K : PySem.W.Frag} [Tb K] {Γ : List (Option Av)} {Ω : AH} {E : EndA} {te ta tb : TE} {t u w : TS} {tt : TT} {g : TG} {gs : TGs} {tl : TA} {i j : Nat} {a : Av} {as : List Av} {ds : List PyData}
theorem g_name {P : List (Option Av) → AH → Prop} (h : P (Γ.set i (some a)) Ω) : GW K (gName i) a Γ Ω P := fun F σ H v Q k hv q => q _ _ _ _ h (k.set hv i)
theorem g_tup {n : Nat} {P : List (Option Av) → AH → Prop} (l : ds.length = n) (h : GsW K gs (ds.map .dat) Γ Ω P) : GW K (gTup K n gs) (.dat (.tuple ds)) Γ Ω P := fun F σ H v Q k hv q => by
  cases hv with | dat hv => cases hv with | tup hs g =>
    exact ⟨_, _, rfl, sqT_same Fz_le hs, by rw [g.length, l], h F σ H _ Q k (.ofDats g) q⟩
theorem g_tupA {n : Nat} {P : List (Option Av) → AH → Prop} (l : as.length = n) (h : GsW K gs as Γ Ω P) : GW K (gTup K n gs) (.tup as) Γ Ω P := fun F σ H v Q k hv q => by
  cases hv with | tup hs g =>
    exact ⟨_, _, rfl, SqT.of (Fz_le _ _ hs), by rw [g.length, l], h F σ H _ Q k g q⟩
theorem gs_nil {P : List (Option Av) → AH → Prop} (h : P Γ Ω) : GsW K gNil [] Γ Ω P := fun F σ H vs Q k hv q => by
  cases hv
  exact ⟨rfl, q _ _ _ _ h k⟩
theorem gs_cons {P : List (Option Av) → AH → Prop} (h : GW K g a Γ Ω fun Γ1 Ω1 => Ω1 = Ω ∧ GsW K gs as Γ1 Ω1 P) : GsW K (gCons g gs) (a :: as) Γ Ω P := fun F σ H vs Q k hv q => by
  cases hv with | cons hv hr =>
    exact ⟨_, _, rfl, h (Fz Ω H) σ H _ _ k.re hv fun Γ1 σ1 Ω1 H1 ⟨e, h1⟩ k1 => h1 F σ1 H1 _ Q (k1.anchor k.fr) (hr.same k1.fr) q⟩
/-! ### statements -/
theorem s_next (h : E.nx Γ Ω) : SW K tNext Γ Ω E := fun F σ H D k e => e.nx _ _ _ _ h k
theorem s_seq (h : SW K t Γ Ω { E with nx := fun Γ' Ω' => SW K u Γ' Ω' E }) : SW K (tSeq t u) Γ Ω E := fun F σ H D k e =>
  h F σ H { D with nx := u D } k ⟨fun Γ' σ' Ω' H' h' k' => h' F σ' H' D k' e, e.rt, e.bk, e.ct⟩
theorem s_cut (M : List (Option Av) → AH → Prop) (h : SW K t Γ Ω { E with nx := M }) (h2 : ∀ Γ' Ω', M Γ' Ω' → SW K u Γ' Ω' E) : SW K (C8.tCut t u) Γ Ω E := fun F σ H D k e =>
  ⟨fun σ' H' => ∃ Γ' Ω', M Γ' Ω' ∧ Ok K F Ω' Γ' σ' H', h F σ H _ k ⟨fun Γ' σ' Ω' H' hm k' => ⟨Γ', Ω', hm, k'⟩, e.rt, e.bk, e.ct⟩, fun σ' H' ⟨Γ', Ω', hm, k'⟩ => h2 Γ' Ω' hm F σ' H' D k' e⟩
theorem s_seqM (M : List (Option Av) → AH → Prop) (h : SW K t Γ Ω { E with nx := M }) (h2 : ∀ Γ' Ω', M Γ' Ω' → SW K u Γ' Ω' E) : SW K (tSeq t u) Γ Ω E := fun F σ H D k e =>
  h F σ H { D with nx := u D } k ⟨fun Γ' σ' Ω' H' hm k' => h2 Γ' Ω' hm F σ' H' D k' e, e.rt, e.bk, e.ct⟩
theorem SW.mono {E' : EndA} (h : SW K t Γ Ω E) (n : ∀ Γ' Ω', E.nx Γ' Ω' → E'.nx Γ' Ω') (r : ∀ a Ω', E.rt a Ω' → E'.rt a Ω') (b : ∀ Γ' Ω', E.bk Γ' Ω' → E'.bk Γ' Ω') (c : ∀ Γ' Ω', E.ct Γ' Ω' → E'.ct Γ' Ω') : SW K t Γ Ω E' := fun F σ H D k e =>
  h F σ H D k ⟨fun Γ' σ' Ω' H' z => e.nx _ _ _ _ (n _ _ z), fun a v Ω' H' z => e.rt _ _ _ _ (r _ _ z), fun Γ' σ' Ω' H' z => e.bk _ _ _ _ (b _ _ z), fun Γ' σ' Ω' H' z => e.ct _ _ _ _ (c _ _ z)⟩
theorem s_asgG (h : EW K te Γ Ω fun a Ω1 => GW K g a Γ Ω1 E.nx) : SW K (tAsg te g) Γ Ω E := fun F σ H D k e =>
  h F σ H _ k fun a v Ω1 H1 h1 k1 v1 => h1 F σ H1 v D.nx k1 v1 fun Γ' σ' Ω' H' h' k' => e.nx _ _ _ _ h' k'
theorem s_asg (h : EW K te Γ Ω fun a Ω1 => E.nx (Γ.set i (some a)) Ω1) : SW K (tAsg te (gName i)) Γ Ω E := fun F σ H D k e =>
  h F σ H _ k fun a v Ω1 H1 h1 k1 v1 => e.nx _ _ _ _ h1 (k1.set v1 i)
theorem s_par (h : AW K tl Γ Ω fun as Ω1 => ∃ a b, as = [a, b] ∧ E.nx ((Γ.set i (some a)).set j (some b)) Ω1) : SW K (tPar i j tl) Γ Ω E := fun F σ H D k e =>
  h F σ H _ k fun as vs Ω1 H1 ⟨a, b, ea, h1⟩ k1 v1 => by
    subst ea
    cases v1 with | cons va v1 => cases v1 with | cons vb v1 =>
      cases v1
      exact ⟨_, _, rfl, e.nx _ _ _ _ h1 ((k1.set va i).set vb j)⟩
theorem s_aug {f : Int → Int → Int} {x : Int} (hx : Γ[i]? = some (some (.dat (.int x)))) (h : EW K te Γ Ω fun a Ω1 => ∃ y, a = .dat (.int y) ∧ E.nx (Γ.set i (some (.dat (.int (f x y))))) Ω1) : SW K (tAug i te (ipI f)) Γ Ω E := fun F σ H D k e => by
  obtain ⟨v, ev, hv⟩ := k.val hx
  cases hv with | dat hv =>
    cases hv
    refine ⟨_, ev, h F σ H _ k fun a v Ω1 H1 ⟨y, ea, h1⟩ k1 v1 => ?_⟩
    subst ea
    cases v1 with | dat v1 =>
      cases v1
      exact ⟨x, y, rfl, rfl, e.nx _ _ _ _ h1 (k1.set (.dat (.int _)) i)⟩
theorem s_drop (h : EW K te Γ Ω fun _ Ω1 => E.nx Γ Ω1) : SW K (tDrop te) Γ Ω E := fun F σ H D k e => h F σ H _ k fun a v Ω1 H1 h1 k1 v1 => e.nx _ _ _ _ h1 k1
theorem s_ret (h : EW K te Γ Ω E.rt) : SW K (tRet te) Γ Ω E := fun F σ H D k e => h F σ H _ k fun a v Ω1 H1 h1 k1 v1 => e.rt _ _ _ _ h1 k1.bare v1
theorem s_retN (h : E.rt (.dat .none) Ω) : SW K tRetN Γ Ω E := fun F σ H D k e => e.rt _ _ _ _ h k.bare (.dat .non)
theorem s_brk (h : E.bk Γ Ω) : SW K tBreak Γ Ω E := fun F σ H D k e => e.bk _ _ _ _ h k
theorem s_cont (h : E.ct Γ Ω) : SW K tCont Γ Ω E := fun F σ H D k e => e.ct _ _ _ _ h k
theorem s_if (h : TW K tt Γ Ω fun b Ω1 => (b = true → SW K t Γ Ω1 E) ∧ (b = false → SW K u Γ Ω1 E)) : SW K (tIfS tt t u) Γ Ω E := fun F σ H D k e =>
  h F σ H _ k fun b Ω1 H1 hp k1 => by
    cases b with
    | true => exact hp.1 rfl F σ H1 D k1 e
    | false => exact hp.2 rfl F σ H1 D k1 e
/-- xs.append(e) -/
theorem e_app {P : Av → AH → Prop} (h : EW K ta Γ Ω fun a Ω1 => ∃ p, a = .ptr p ∧ (∃ bs, Ω1 p = some bs) ∧ AW K tl Γ Ω1 fun cs Ω2 => ∃ b as, cs = [b] ∧ Ω2 p = some as ∧ as.length < 100000 ∧ P (.dat .none) (put Ω2 p (as ++ [b]))) : EW K (tBM K "list" rAppend ta tl) Γ Ω P := fun F σ H Q k q =>
  h F σ H _ k fun a v Ω1 H1 ⟨p, ea, ⟨bs, eb⟩, h1⟩ k1 v1 => by
    subst ea
    cases v1
    obtain ⟨zs, hz, _⟩ := k1.st p bs eb
    refine ⟨.inl ⟨rfl, _, SqL.of hz⟩, h1 F σ H1 _ k1 fun cs vs Ω2 H2 ⟨b, as, ec, e2, l, hp⟩ k2 v2 => ?_⟩
    subst ec
    cases v2 with | cons vb v2 =>
      cases v2
      obtain ⟨xs, hx, g⟩ := k2.st p as e2
      have lx := g.length
      exact ⟨p, xs, _, rfl, rfl, hx, sz_lt (by omega), q _ _ _ _ hp (k2.put e2 (g.app (.cons vb .nil))) (.dat .non)⟩
/-- xs[i] = e -/
theorem s_setL (h : EW K te Γ Ω fun a Ω1 => EW K ta Γ Ω1 fun o Ω2 => ∃ p, o = .ptr p ∧ EW K tb Γ Ω2 fun c Ω3 => ∃ (z : Int) (as : List Av) (j : Nat), c = .dat (.int z) ∧ Ω3 p = some as ∧ ixN as.length z = some j ∧ E.nx Γ (put Ω3 p (as.set j a))) : SW K (tAsg te (gSub ta tb rSetL)) Γ Ω E := fun F σ H D k e =>
  h F σ H _ k fun a v Ω1 H1 h1 k1 v1 => h1 (Fz Ω1 H1) σ H1 _ k1.re fun o x Ω2 H2 ⟨p, eo, h2⟩ k2 v2 => by
    subst eo
    cases v2
    refine h2 (Fz Ω2 H2) σ H2 _ k2.re fun c y Ω3 H3 ⟨z, as, jj, ec, ep, ej, hn⟩ k3 v3 => ?_
    subst ec
    cases v3 with | dat v3 =>
      cases v3
      obtain ⟨xs, hx, g⟩ := k3.st p as ep
      refine ⟨p, xs, z, jj, rfl, rfl, hx, ?_, e.nx _ _ _ _ hn ((k3.anchor (k1.fr.trans k2.fr)).put ep (g.set jj ((v1.same k2.fr).same k3.fr)))⟩
      rw [g.length]
      exact ej
/-! ### walks -/
structure WalkA (K : PySem.W.Frag) [Tb K] (F : Hp) (J : It) (as : List Av) : Prop where
  go : ∀ (Ω : AH) (H : Hp), Ok K F Ω [] [] H → ∀ i a, as[i]? = some a → J.go i H ∧ ∀ x H', J.yld i H x H' → Same H H' ∧ VOk K (Fz Ω H') a x
  stop : ∀ (Ω : AH) (H : Hp), Ok K F Ω [] [] H → J.stop as.length H
def IW (K : PySem.W.Frag) [Tb K] (wi : TI) (Γ : List (Option Av)) (Ω : AH) (P : List Av → AH → Prop) : Prop :=
  ∀ (F : Hp) (σ : L2.St) (H : Hp) (R : It → Hp → Prop), Ok K F Ω Γ σ H → (∀ as Ω' H' J, P as Ω' → Ok K F Ω' Γ σ H' → WalkA K (Fz Ω' H') J as → R J H') → wi σ H R
theorem walk_t {F : Hp} {a : Addr} {xs : List V} (h : SqT K F a xs) (g : DqAll K F xs ds) : WalkA K F (Itt K a) (ds.map .dat) := by
  constructor
  · intro Ω H k i b e
    rw [List.getElem?_map] at e
    cases ed : ds[i]? with
    | none => rw [ed] at e; cases e
    | some d =>
      rw [ed] at e
      cases e
      obtain ⟨v, ev, hv⟩ := g.get ed
      have hs : SqT K H a xs := sqT_same (k.fr.trans Fz_le) h
      refine ⟨⟨xs, v, hs, ev⟩, fun x H' hy => ?_⟩
      obtain ⟨rfl, f⟩ := hy
      have := f xs hs
      rw [ev] at this
      cases this
      exact ⟨Same.refl _, .dat (hv.same k.fr)⟩
  · intro Ω H k
    rw [List.length_map]
    exact ⟨xs, sqT_same (k.fr.trans Fz_le) h, by rw [g.length]; exact Nat.le_refl _⟩
theorem walk_l {F : Hp} {a : Addr} {xs : List V} (h : F a = some (.lst xs)) (g : DqAll K F xs ds) : WalkA K F (Itl K a) (ds.map .dat) := by
  constructor
  · intro Ω H k i b e
    rw [List.getElem?_map] at e
    cases ed : ds[i]? with
    | none => rw [ed] at e; cases e
    | some d =>
      rw [ed] at e
      cases e
      obtain ⟨v, ev, hv⟩ := g.get ed
      have hs : SqL K H a xs := SqL.of ((k.fr.trans Fz_le) _ _ h)
      refine ⟨⟨xs, v, hs, ev⟩, fun x H' hy => ?_⟩
      obtain ⟨rfl, f⟩ := hy
      have := f xs hs
      rw [ev] at this
      cases this
      exact ⟨Same.refl _, .dat (hv.same k.fr)⟩
  · intro Ω H k
    rw [List.length_map]
    exact ⟨xs, SqL.of ((k.fr.trans Fz_le) _ _ h), by rw [g.length]; exact Nat.le_refl _⟩
def rngA (lo : Int) (n : Nat) : List Av := (List.range n).map fun k => .dat (.int (lo + (k : Nat)))
theorem walk_r {F : Hp} (lo : Int) (n : Nat) : WalkA K F (Itr lo n) (rngA lo n) := by
  constructor
  · intro Ω H k i b e
    unfold rngA at e
    rw [List.getElem?_map] at e
    by_cases hi : i < n
    · rw [List.getElem?_range hi] at e
      cases e
      exact ⟨hi, fun x H' hy => by
        obtain ⟨rfl, rfl⟩ := hy
        exact ⟨Same.refl _, .dat (.int _)⟩⟩
    · rw [List.getElem?_eq_none (by rw [List.length_range]; omega)] at e
      cases e
  · intro Ω H k
    unfold rngA
    rw [List.length_map, List.length_range]
    exact Nat.le_refl _
theorem i_tup {P : List Av → AH → Prop} (h : EW K te Γ Ω fun a Ω1 => ∃ ds, a = .dat (.tuple ds) ∧ P (ds.map .dat) Ω1) : IW K (iTup K te) Γ Ω P := fun F σ H R k q =>
  h F σ H _ k fun a v Ω1 H1 ⟨ds, e, hp⟩ k1 v1 => by
    subst e
    cases v1 with | dat v1 => cases v1 with | tup hs g =>
      exact ⟨_, rfl, ⟨_, sqT_same Fz_le hs⟩, q _ _ _ _ hp k1 (walk_t hs g)⟩
theorem i_list {P : List Av → AH → Prop} (h : EW K te Γ Ω fun a Ω1 => ∃ ds, a = .dat (.list ds) ∧ P (ds.map .dat) Ω1) : IW K (iList K te) Γ Ω P := fun F σ H R k q =>
  h F σ H _ k fun a v Ω1 H1 ⟨ds, e, hp⟩ k1 v1 => by
    subst e
    cases v1 with | dat v1 => cases v1 with | lst hs g =>
      exact ⟨_, rfl, ⟨_, SqL.of (Fz_le _ _ hs)⟩, q _ _ _ _ hp k1 (walk_l hs g)⟩
theorem i_rng1 {P : List Av → AH → Prop} (h : AW K tl Γ Ω fun as Ω1 => ∃ n : Int, as = [.dat (.int n)] ∧ (-(2 ^ 62) ≤ n ∧ n < 2 ^ 62) ∧ P (rngA 0 n.toNat) Ω1) : IW K (iRng1 tl) Γ Ω P := fun F σ H R k q =>
  h F σ H _ k fun as vs Ω1 H1 ⟨n, e, b, hp⟩ k1 v1 => by
    subst e
    cases v1 with | cons va v1 => cases v1; cases va with | dat va =>
      cases va
      exact ⟨n, rfl, b.1, b.2, q _ _ _ _ hp k1 (walk_r 0 n.toNat)⟩
theorem i_rng2 {P : List Av → AH → Prop} (h : AW K tl Γ Ω fun as Ω1 => ∃ lo n : Int, as = [.dat (.int lo), .dat (.int n)] ∧ (-(2 ^ 62) ≤ lo ∧ lo < 2 ^ 62 ∧ -(2 ^ 62) ≤ n ∧ n < 2 ^ 62) ∧ P (rngA lo (n - lo).toNat) Ω1) : IW K (iRng2 tl) Γ Ω P := fun F σ H R k q =>
  h F σ H _ k fun as vs Ω1 H1 ⟨lo, n, e, b, hp⟩ k1 v1 => by
    subst e
    cases v1 with | cons va v1 => cases v1 with | cons vb v1 => cases v1; cases va with | dat va => cases vb with | dat vb =>
      cases va
      cases vb
      exact ⟨lo, n, rfl, b, q _ _ _ _ hp k1 (walk_r lo _)⟩
/-- for: a word of the turn over the abstract state -/
theorem s_for {wi : TI} (M : List Av → Nat → List (Option Av) → AH → Prop) (h : IW K wi Γ Ω fun as Ω1 => M as 0 Γ Ω1 ∧
      (∀ i a Γ' Ω', as[i]? = some a → M as i Γ' Ω' → GW K g a Γ' Ω' fun Γ2 Ω2 => SW K t Γ2 Ω2 { E with nx := M as (i + 1), ct := M as (i + 1), bk := E.nx }) ∧ ∀ Γ' Ω', M as as.length Γ' Ω' → E.nx Γ' Ω') : SW K (tFor wi g t) Γ Ω E := fun F σ H D k e =>
  h F σ H _ k fun as Ω1 H1 J ⟨h0, hs, hd⟩ k1 wk => by
    have e1 := e.anchor k1.fr
    refine ⟨fun i m σ' H' => m = as.length - i ∧ i ≤ as.length ∧ ∃ Γ' Ω', M as i Γ' Ω' ∧ Ok K (Fz Ω1 H1) Ω' Γ' σ' H', ⟨_, rfl, Nat.zero_le _, Γ, Ω1, h0, k1.re⟩, ?_⟩
    rintro i m σ' H' ⟨rfl, hi, Γ', Ω', hm, k'⟩
    by_cases hlt : i < as.length
    · obtain ⟨hg, hy⟩ := wk.go Ω' H' k'.bare i _ (List.getElem?_eq_getElem hlt)
      refine .inr ⟨hg, fun σ2 H2 => ∃ Γ2 Ω2, M as (i + 1) Γ2 Ω2 ∧ Ok K (Fz Ω1 H1) Ω2 Γ2 σ2 H2, fun σ2 H2 ⟨Γ2, Ω2, hm2, k2⟩ => ⟨_, by omega, rfl, by omega, Γ2, Ω2, hm2, k2⟩, fun x H2 hyx => ?_⟩
      obtain ⟨s2, v2⟩ := hy x H2 hyx
      exact hs i _ Γ' Ω' (List.getElem?_eq_getElem hlt) hm (Fz Ω1 H1) σ' H2 x _ (k'.same s2) v2 fun Γ3 σ3 Ω3 H3 h3 k3 =>
        h3 (Fz Ω1 H1) σ3 H3 _ k3 ⟨fun Γ4 σ4 Ω4 H4 h4 k4 => ⟨Γ4, Ω4, h4, k4⟩, e1.rt, e1.nx, fun Γ4 σ4 Ω4 H4 h4 k4 => ⟨Γ4, Ω4, h4, k4⟩⟩
    · have ei : i = as.length := by omega
      subst ei
      exact .inl ⟨wk.stop Ω' H' k'.bare, e1.nx _ _ _ _ (hd Γ' Ω' hm) k'⟩
/-- while -/
theorem s_while (M : Nat → List (Option Av) → AH → Prop) (m0 : Nat) (h0 : M m0 Γ Ω)
    (hs : ∀ m Γ' Ω', M m Γ' Ω' → TW K tt Γ' Ω' fun b Ω1 => (b = true → SW K t Γ' Ω1 { E with nx := fun Γ2 Ω2 => ∃ m', m' < m ∧ M m' Γ2 Ω2, ct := fun Γ2 Ω2 => ∃ m', m' < m ∧ M m' Γ2 Ω2, bk := E.nx }) ∧ (b = false → E.nx Γ' Ω1)) : SW K (tWhile tt t) Γ Ω E := fun F σ H D k e => by
  refine ⟨fun m σ' H' => ∃ Γ' Ω', M m Γ' Ω' ∧ Ok K F Ω' Γ' σ' H', ⟨m0, Γ, Ω, h0, k⟩, ?_⟩
  rintro m σ' H' ⟨Γ', Ω', hm, k'⟩
  refine hs m Γ' Ω' hm F σ' H' _ k' fun b Ω1 H1 hb k1 => ?_
  cases b with
  | true =>
    show ∃ N : L2.St → Hp → Prop, (∀ σ' H', N σ' H' → ∃ m', m' < m ∧ ∃ Γ' Ω', M m' Γ' Ω' ∧ Ok K F Ω' Γ' σ' H') ∧ t { D with nx := N, ct := N, bk := D.nx } σ' H1
    exact ⟨fun σ2 H2 => ∃ Γ2 Ω2, (∃ m', m' < m ∧ M m' Γ2 Ω2) ∧ Ok K F Ω2 Γ2 σ2 H2, fun σ2 H2 ⟨Γ2, Ω2, ⟨m', lt, h2⟩, k2⟩ => ⟨m', lt, Γ2, Ω2, h2, k2⟩,
      hb.1 rfl F σ' H1 _ k1 ⟨fun Γ2 σ2 Ω2 H2 h2 k2 => ⟨Γ2, Ω2, h2, k2⟩, e.rt, e.nx, fun Γ2 σ2 Ω2 H2 h2 k2 => ⟨Γ2, Ω2, h2, k2⟩⟩⟩
  | false => exact e.nx _ _ _ _ (hb.2 rfl) k1
/-! ### comprehensions -/
/-- a target that stores into these slots alone -/
def GN (g : TG) (js : List Nat) : Prop := ∀ (v : V) (σ : L2.St) (H : Hp) (Q Q' : L2.St → Hp → Prop), (∀ σ' H', σ'.length = σ.length → (∀ i, i ∉ js → σ'[i]? = σ[i]?) → Q σ' H' → Q' σ' H') → g v σ H Q → g v σ H Q'
def GNs (g : TGs) (js : List Nat) : Prop := ∀ (vs : List V) (σ : L2.St) (H : Hp) (Q Q' : L2.St → Hp → Prop), (∀ σ' H', σ'.length = σ.length → (∀ i, i ∉ js → σ'[i]? = σ[i]?) → Q σ' H' → Q' σ' H') → g vs σ H Q → g vs σ H Q'
theorem gn_name {js : List Nat} (h : i ∈ js) : GN (gName i) js := fun v σ H Q Q' f q => f _ _ (List.length_set ..) (fun j hj => List.getElem?_set_ne (fun e => hj (by rw [← e]; exact h))) q
theorem gns_nil {js : List Nat} : GNs gNil js := fun vs σ H Q Q' f ⟨e, q⟩ => ⟨e, f _ _ rfl (fun _ _ => rfl) q⟩
theorem gns_cons {js : List Nat} (h1 : GN g js) (h2 : GNs gs js) : GNs (gCons g gs) js := fun vs σ H Q Q' f ⟨v, r, e, q⟩ => ⟨v, r, e, h1 v σ H _ _ (fun σ1 H1 l1 a1 q1 => h2 r σ1 H1 Q Q' (fun σ2 H2 l2 a2 q2 => f σ2 H2 (l2.trans l1) (fun i hi => (a2 i hi).trans (a1 i hi)) q2) q1) q⟩
theorem gn_tup {n : Nat} {js : List Nat} (h : GNs gs js) : GN (gTup K n gs) js := fun v σ H Q Q' f ⟨a, xs, e, hs, l, q⟩ => ⟨a, xs, e, hs, l, h xs σ H Q Q' f q⟩
theorem wipe_get {σ : L2.St} {i : Nat} : ∀ {vs : List Nat}, (L2.wipe σ vs)[i]? = if i ∈ vs ∧ i < σ.length then some none else σ[i]?
  | [] => by simp [L2.wipe]
  | v :: vs => by
    unfold L2.wipe
    by_cases e : v = i
    · subst e
      by_cases hl : v < σ.length
      · rw [List.getElem?_set_self (by rw [wipe_length]; exact hl), if_pos ⟨List.mem_cons_self, hl⟩]
      · rw [List.getElem?_eq_none (by rw [List.length_set, wipe_length]; omega), if_neg (fun h => hl h.2), List.getElem?_eq_none (by omega)]
    · rw [List.getElem?_set_ne e, wipe_get]
      have e' : ¬ i = v := fun q => e q.symm
      simp only [List.mem_cons, e', false_or]
theorem wipe_agree {σ σ2 : L2.St} {vs : List Nat} (l : σ2.length = (L2.wipe σ vs).length) (h : ∀ i, i ∉ vs → σ2[i]? = (L2.wipe σ vs)[i]?) : L2.wipe σ2 vs = L2.wipe σ vs := by
  rw [wipe_length] at l
  apply List.ext_getElem?
  intro i
  rw [wipe_get, wipe_get]
  by_cases hi : i ∈ vs
  · by_cases hl : i < σ.length
    · rw [if_pos ⟨hi, by omega⟩, if_pos ⟨hi, hl⟩]
    · rw [if_neg (fun z => hl (by omega)), if_neg (fun z => hl z.2), List.getElem?_eq_none (by omega), List.getElem?_eq_none (by omega)]
  · rw [if_neg (fun z => hi z.1), if_neg (fun z => hi z.1), h i hi, wipe_get, if_neg (fun z => hi z.1)]
/-- D: where the list grows; M: a word of the turn and what is made so far -/
theorem e_lc {wi : TI} {vs : List Nat} {P : Av → AH → Prop} (hg : GN g vs) (M : Addr → List Av → Nat → List Av → AH → Prop)
    (h : IW K wi Γ Ω fun as Ω1 => as.length ≤ 50000 ∧ ∀ D, Ω1 D = none → M D as 0 [] (put Ω1 D []) ∧
      (∀ i a acc Ω', as[i]? = some a → M D as i acc Ω' → Ω' D = some acc ∧ acc.length ≤ i ∧ GW K g a (wipeA Γ vs) Ω' fun Γ2 Ω2 => TW K tt Γ2 Ω2 fun b Ω3 =>
        (b = true → EW K te Γ2 Ω3 fun y Ω4 => Ω4 D = some acc ∧ M D as (i + 1) (acc ++ [y]) (put Ω4 D (acc ++ [y]))) ∧ (b = false → M D as (i + 1) acc Ω3)) ∧
      ∀ acc Ω', M D as as.length acc Ω' → P (.ptr D) Ω') : EW K (tLc wi g tt te vs) Γ Ω P := fun F σ H Q k q =>
  h F σ H _ k fun as Ω1 H1 J ⟨hz, hM⟩ k1 wk D nD => by
    obtain ⟨h0, hs, hd⟩ := hM D (k1.free nD)
    refine ⟨fun i m H' => m = as.length - i ∧ i ≤ as.length ∧ ∃ acc Ω', M D as i acc Ω' ∧ Ok K (Fz Ω1 H1) Ω' Γ σ H', ⟨_, rfl, Nat.zero_le _, [], put Ω1 D [], h0, k1.re.new nD .nil⟩, ?_⟩
    rintro i m H' ⟨rfl, hi, acc, Ω', hm, k'⟩
    by_cases hlt : i < as.length
    · obtain ⟨hgo, hy⟩ := wk.go Ω' H' k'.bare i _ (List.getElem?_eq_getElem hlt)
      refine .inr ⟨hgo, fun H2 => ∃ acc Ω2, M D as (i + 1) acc Ω2 ∧ Ok K (Fz Ω1 H1) Ω2 Γ σ H2, fun H2 ⟨acc2, Ω2, hm2, k2⟩ => ⟨_, by omega, rfl, by omega, acc2, Ω2, hm2, k2⟩, fun x H2 hyx => ?_⟩
      obtain ⟨s2, v2⟩ := hy x H2 hyx
      obtain ⟨eD, la, hb⟩ := hs i _ acc Ω' (List.getElem?_eq_getElem hlt) hm
      have k2 := k'.same s2
      refine hg x (L2.wipe σ vs) H2 _ _ (fun σ3 H3 l3 a3 q3 => ⟨wipe_agree l3 a3, q3⟩) ?_
      refine hb (Fz Ω' H2) (L2.wipe σ vs) H2 x _ (k2.re.wipe vs) v2 fun Γ3 σ3 Ω3 H3 h3 k3 => ?_
      refine h3 (Fz Ω3 H3) σ3 H3 _ k3.re fun b Ω4 H4 h4 k4 => ?_
      have k4' : Ok K (Fz Ω1 H1) Ω4 Γ σ H4 := k2.back ((k4.anchor k3.fr).bare)
      cases b with
      | true =>
        refine h4.1 rfl (Fz Ω4 H4) σ3 H4 _ k4.re fun y v Ω5 H5 ⟨e5, h5⟩ k5 v5 => ?_
        have k5' : Ok K (Fz Ω1 H1) Ω5 Γ σ H5 := k4'.back k5.bare
        obtain ⟨xs, hx, g5⟩ := k5.st D acc e5
        have l5 := g5.length
        exact ⟨xs, hx, sz_lt (by omega), _, _, h5, k5'.put e5 (g5.app (.cons v5 .nil))⟩
      | false => exact ⟨acc, Ω4, h4.2 rfl, k4'⟩
    · have ei : i = as.length := by omega
      subst ei
      exact .inl ⟨wk.stop Ω' H' k'.bare, q _ _ _ _ (hd acc Ω' hm) (k'.anchor k1.fr) (.ptr D)⟩
/-- the same, nothing changed by a turn: what is made of each item, and which items are taken -/
theorem e_lcF {α : Type} {wi : TI} {vs : List Nat} {P : Av → AH → Prop} (xs : List α) (enc : α → Av) (p : α → Bool) (out : α → PyData) (hg : GN g vs) (hz : xs.length ≤ 50000)
    (h : IW K wi Γ Ω fun as Ω1 => as = xs.map enc ∧ (∀ x Ω', x ∈ xs → (∀ q bs, Ω1 q = some bs → Ω' q = some bs) → GW K g (enc x) (wipeA Γ vs) Ω' fun Γ2 Ω2 => Ω2 = Ω' ∧ TW K tt Γ2 Ω2 fun b Ω3 => Ω3 = Ω' ∧ b = p x ∧ (p x = true → EW K te Γ2 Ω3 fun y Ω4 => Ω4 = Ω' ∧ y = .dat (out x))) ∧
      P (.dat (.list ((xs.filter p).map out))) Ω1) : EW K (tLc wi g tt te vs) Γ Ω P := by
  refine EW.frz ?_
  refine e_lc hg (fun D as i acc Ω' => ∃ Ω1 : AH, Ω1 D = none ∧ as = xs.map enc ∧ acc = (((xs.take i).filter p).map out).map .dat ∧ Ω' = put Ω1 D acc ∧ (∀ x Ω', x ∈ xs → (∀ q bs, Ω1 q = some bs → Ω' q = some bs) → GW K g (enc x) (wipeA Γ vs) Ω' fun Γ2 Ω2 => Ω2 = Ω' ∧ TW K tt Γ2 Ω2 fun b Ω3 => Ω3 = Ω' ∧ b = p x ∧ (p x = true → EW K te Γ2 Ω3 fun y Ω4 => Ω4 = Ω' ∧ y = .dat (out x))) ∧
      P (.dat (.list ((xs.filter p).map out))) Ω1) fun F σ H R k q => h F σ H R k fun as Ω1 H1 J ⟨e, hb, hp⟩ k1 wk => q as Ω1 H1 J ⟨by rw [e, List.length_map]; exact hz, fun D nD => ⟨⟨Ω1, nD, e, by simp, rfl, hb, hp⟩, fun i a acc Ω' ea hm => ?_, fun acc Ω' hm => ?_⟩⟩ k1 wk
  · obtain ⟨Ω0, n0, e0, rfl, rfl, hb0, hp0⟩ := hm
    subst e0
    rw [List.getElem?_map] at ea
    cases ex : xs[i]? with
    | none => rw [ex] at ea; cases ea
    | some x =>
      rw [ex] at ea
      cases ea
      have mx : x ∈ xs := List.mem_of_getElem? ex
      have tk : (xs.take (i + 1)).filter p = (xs.take i).filter p ++ (if p x = true then [x] else []) := by
        rw [List.take_add_one, ex, List.filter_append]
        show _ ++ (List.filter p [x]) = _
        rw [List.filter_cons, List.filter_nil]
      refine ⟨put_same, ?_, ?_⟩
      · rw [List.length_map, List.length_map]
        exact Nat.le_trans (List.length_filter_le ..) (by rw [List.length_take]; omega)
      refine fun F' σ' H' v Q' k' v' q' => hb0 x _ mx (fun q bs hq => by
        rw [put_ne (ne_of_Ω hq n0)]
        exact hq) F' σ' H' v Q' k' v' fun Γ2 σ2 Ω2 H2 ⟨e2, h2⟩ k2 => q' Γ2 σ2 Ω2 H2 ?_ k2
      subst e2
      refine fun F' σ' H' Q' k' q' => h2 F' σ' H' Q' k' fun b Ω3 H3 ⟨e3, eb, h3⟩ k3 => q' b Ω3 H3 ⟨fun hb => ?_, fun hb => ?_⟩ k3
      · subst e3
        refine (h3 (eb.symm.trans hb)).mono fun y Ω4 ⟨e4, ey⟩ => ?_
        subst e4 ey
        refine ⟨put_same, Ω0, n0, rfl, ?_, by rw [put_put], hb0, hp0⟩
        rw [tk, if_pos (eb.symm.trans hb), List.map_append, List.map_append]
        rfl
      · subst e3
        refine ⟨Ω0, n0, rfl, ?_, rfl, hb0, hp0⟩
        rw [tk, if_neg (by rw [← eb, hb]; decide), List.append_nil]
  · obtain ⟨Ω0, n0, e0, rfl, rfl, hb0, hp0⟩ := hm
    refine ⟨D, _, rfl, put_same, ?_⟩
    rw [del_put n0, e0, List.length_map, List.take_length]
    exact hp0
theorem e_lcM {α : Type} {wi : TI} {vs : List Nat} {P : Av → AH → Prop} (xs : List α) (enc : α → Av) (out : α → PyData) (hg : GN g vs) (hz : xs.length ≤ 50000)
    (h : IW K wi Γ Ω fun as Ω1 => as = xs.map enc ∧ (∀ x Ω', x ∈ xs → (∀ q bs, Ω1 q = some bs → Ω' q = some bs) → GW K g (enc x) (wipeA Γ vs) Ω' fun Γ2 Ω2 => Ω2 = Ω' ∧ EW K te Γ2 Ω2 fun y Ω4 => Ω4 = Ω' ∧ y = .dat (out x)) ∧
      P (.dat (.list (xs.map out))) Ω1) : EW K (tLc wi g tYes te vs) Γ Ω P :=
  e_lcF xs enc (fun _ => true) out hg hz fun F σ H R k q => h F σ H R k fun as Ω1 H1 J ⟨e, hb, hp⟩ k1 wk => q as Ω1 H1 J ⟨e, fun x Ω' mx hq F' σ' H' v Q' k' v' q' => hb x Ω' mx hq F' σ' H' v Q' k' v' fun Γ2 σ2 Ω2 H2 ⟨e2, h2⟩ k2 => q' Γ2 σ2 Ω2 H2 ⟨e2, t_yes ⟨e2, rfl, fun _ => h2⟩⟩ k2, by
    rw [List.filter_eq_self.mpr (fun _ _ => rfl)]
    exact hp⟩ k1 wk
/-! ### calls of defs -/
abbrev ASp := List Av → AH → (Av → AH → Prop) → Prop
def spA (K : PySem.W.Frag) [Tb K] (sp : ASp) : Sp := fun vs H Q _ => ∃ (F : Hp) (Ω : AH) (as : List Av) (P : Av → AH → Prop), Ok K F Ω [] [] H ∧ VAll K (Fz Ω H) as vs ∧ sp as Ω P ∧ ∀ a v Ω' H', P a Ω' → Ok K F Ω' [] [] H' → VOk K (Fz Ω' H') a v → Q v H'
theorem e_call {sp : ASp} {X : XK} {P : Av → AH → Prop} (h : AW K tl Γ Ω fun as Ω1 => sp as Ω1 P) : EW K (tCall (spA K sp) [] X tl) Γ Ω P := fun F σ H Q k q =>
  h F σ H _ k fun as vs Ω1 H1 h1 k1 v1 => by
    show spA K sp (vs ++ []) H1 Q X
    rw [List.append_nil]
    exact ⟨Fz Ω1 H1, Ω1, as, P, k1.bare.re, v1, h1, fun a v Ω' H' hp k' hv => q a v Ω' H' hp (k1.back k') hv⟩
theorem e_callD {sp : ASp} {X : XK} {P : Av → AH → Prop} {dvs : List V} {das : List Av} (hd : ∀ F, VAll K F das dvs) (h : AW K tl Γ Ω fun as Ω1 => sp (as ++ das) Ω1 P) : EW K (tCall (spA K sp) dvs X tl) Γ Ω P := fun F σ H Q k q =>
  h F σ H _ k fun as vs Ω1 H1 h1 k1 v1 => ⟨Fz Ω1 H1, Ω1, as ++ das, P, k1.bare.re, v1.app (hd _), h1, fun a v Ω' H' hp k' hv => q a v Ω' H' hp (k1.back k') hv⟩
theorem e_callN {sp : ASp} {X : XK} {P : Av → AH → Prop} {n m : Nat} {gV : List V → List V → List V} {tk : TA} (gA : List Av → List Av → List Av) (hg : ∀ F as bs vs us, VAll K F as vs → VAll K F bs us → VAll K F (gA as bs) (gV vs us))
    (h : AW K tl Γ Ω fun as Ω1 => AW K tk Γ Ω1 fun bs Ω2 => as.length = n ∧ bs.length = m ∧ sp (gA as bs) Ω2 P) : EW K (tCallN n m (spA K sp) gV X tl tk) Γ Ω P := fun F σ H Q k q =>
  h F σ H _ k fun as vs Ω1 H1 h1 k1 v1 => h1 (Fz Ω1 H1) σ H1 _ k1.re fun bs us Ω2 H2 ⟨l1, l2, h2⟩ k2 v2 => ⟨v1.length.trans l1, v2.length.trans l2, Fz Ω2 H2, Ω2, gA as bs, P, k2.bare.re, hg _ _ _ _ _ (v1.same k2.fr) v2, h2, fun a v Ω' H' hp k' hv => q a v Ω' H' hp ((k2.anchor k1.fr).back k') hv⟩
/-- keywords in another order -/
def kwV (π : List Nat) (zs : List V) : List V := π.map fun i => zs.getD i .non
def kwA (π : List Nat) (zs : List Av) : List Av := π.map fun i => zs.getD i (.dat .none)
def kwU (π : List Nat) (zs : List Value) : List Value := π.map fun i => zs.getD i .none
theorem kw_va {F : Hp} {bs : List Av} {us : List V} (h : VAll K F bs us) : ∀ π : List Nat, VAll K F (kwA π bs) (kwV π us)
  | [] => .nil
  | i :: r => .cons (by
      show VOk K F (bs.getD i (.dat .none)) (us.getD i .non)
      rw [List.getD_eq_getElem?_getD, List.getD_eq_getElem?_getD]
      cases e : bs[i]? with
      | none =>
        have : us[i]? = none := by
          rw [List.getElem?_eq_none_iff] at e ⊢
          rw [h.length]
          exact e
        rw [this]
        exact .dat .non
      | some b =>
        obtain ⟨v, ev, hv⟩ := h.get e
        rw [ev]
        exact hv) (kw_va h r)
theorem kw_vals {zs : List V} {ws : List Value} (h : Vals zs ws) : ∀ π : List Nat, Vals (kwV π zs) (kwU π ws)
  | [] => .nil
  | i :: r => .cons (by
      show L2.RelV (zs.getD i .non) (ws.getD i .none)
      rw [List.getD_eq_getElem?_getD, List.getD_eq_getElem?_getD]
      cases e : zs[i]? with
      | none =>
        have : ws[i]? = none := by
          rw [List.getElem?_eq_none_iff] at e ⊢
          rw [← h.length]
          exact e
        rw [this]
        rfl
      | some b =>
        obtain ⟨v, ev, hv⟩ := h.get e
        rw [ev]
        exact hv) (kw_vals h r)
end
section
variable {P : Program} {w : World} {K : PySem.W.Frag} [Tb K] {mg : Str → Option Value} {base : Heap}
theorem spA_len {sp : ASp} {n : Nat} (len : ∀ as Ω P, sp as Ω P → as.length = n) : ∀ vs H Q E, spA K sp vs H Q E → vs.length = n := fun vs H Q E ⟨F, Ω, as, P, k, va, h, _⟩ => va.length.trans (len as Ω P h)
/-- a def of the text keeps its promise -/
theorem fnA_ok {x qual : Str} {st : Stmt} {f : Addr} {fd : FuncData} {N ps : List Str} {k : Nat} {sp : ASp} (F : L2.Fun K x qual st f fd) (S : FnScope N ps (defScope st)) (len : ∀ as Ω P, sp as Ω P → as.length = ps.length)
    (hbody : ∀ (cdv : Value) (A : Around) (outer : List Env) (s : Shared) (H : Hp) (E : XK), Room k (A.deeper (envOfC qual (defScope st) s.heap.objs.size f cdv)) →
      ∃ t, PSs (cxOf CX0 P w K mg base N qual (defScope st) f cdv A outer s H E).nox (defBody st) t ∧ ∀ as Ω P, sp as Ω P → SW K t (as.map some ++ List.replicate (N.length - as.length) none) Ω { nx := fun _ Ω' => P (.dat .none) Ω', rt := P }) :
    FnOk P w K mg base CX0 (k + 1) f fd ps (spA K sp) := by
  refine F.ok S (spA_len len) fun cdv A outer s H vs Q E hr h => ?_
  obtain ⟨t, ht, hs⟩ := hbody cdv A outer s H E hr
  obtain ⟨F0, Ω, as, P, k0, va, h, hq⟩ := h
  refine ⟨t, ht, hs as Ω P h F0 (L2.start N vs) H _ ⟨k0.fr, k0.st, ?_, k0.tb, k0.ob⟩ ⟨fun Γ' σ' Ω' H' hp k' => hq _ _ _ _ hp k'.bare (.dat .non), fun a v Ω' H' hp k' hv => hq _ _ _ _ hp k' hv, fun _ _ _ _ z => z.elim, fun _ _ _ _ z => z.elim⟩⟩
  unfold L2.start
  rw [va.length]
  exact Slots.start (N := N) va _
end
end Dat

set_option Elab.async false
set_option linter.all false
set_option maxRecDepth 100000
set_option maxHeartbeats 1000000
/-! a lambda with parameters, handed to a def that calls it -/
namespace Clo
open PySem PySem.Spec PyProof.Rows L2 LamX NdefX
section
variable {cl : List (Str × Addr)} {fr : List Str} {ws : List (Option V)} {Z : Cx} {pins : List (Addr × Obj)} {σ : L2.St} {H : Hp} {s : Shared}
theorem cells_later (C : CellsAt cl fr ws Z.s_0.heap Z.H_0) (hx : Z.ex = []) (I : Inv Z pins σ H s) : CellsAt cl fr ws s.heap H := by
  have nx : ∀ b : Addr, b ∉ Z.ex := fun b q => by
    rw [hx] at q
    cases q
  have cell : ∀ y c, cl.lookup y = some c → ∀ v, Z.s_0.heap.IsCell c v → s.heap.IsCell c v := fun y c e v w => by
    obtain ⟨o, ho, hd⟩ := w
    obtain ⟨sl, q⟩ := I.base.any ho (C.all y c e).1 (nx c)
    exact ⟨_, q, hd⟩
  constructor
  · exact C.len
  · intro y c e
    obtain ⟨n, v, z⟩ := C.all y c e
    obtain ⟨o, ho, hd⟩ := id z
    exact ⟨I.base.free c o ho n (nx c), v, cell y c e v z⟩
  · exact C.inj
  · intro i y e
    obtain ⟨c, hc, hv⟩ := C.has i y e
    exact ⟨c, hc, fun v q => by
      obtain ⟨u, r, z⟩ := hv v q
      exact ⟨u, r, cell y c hc _ z⟩⟩
end
/-- the object at f is the lambda F with this body -/
def LamO (f : Addr) (F : NF) (body : Expr) : HO := .ext fun h => ∃ pm ctv, h.get? f = some (PySem.W.kla_obj F.name F.qual F.params body F.scope F.cl pm F.c ctv)
theorem lamO_at {P : Program} {w : World} {H : Hp} {h : Heap} {f : Addr} {F : NF} {body : Expr} (hok : HOk P w H h) (e : H f = some (LamO f F body)) : ∃ pm ctv, h.get? f = some (PySem.W.kla_obj F.name F.qual F.params body F.scope F.cl pm F.c ctv) := (hok f _ e).1
/-- what it promises; ws: what its captured cells hold -/
structure LOk (P : Program) (w : World) (K : PySem.W.Frag) (mg : Str → Option Value) (base : Heap) (CX : CXT) (k : Nat) (f : Addr) (F : NF) (body : Expr) (ps fr : List Str) (sp : List (Option V) → Sp) : Prop where
  len : ∀ ws vs H Q E, sp ws vs H Q E → vs.length = ps.length
  run : ∀ (A : Around) (outer : List Env) (s : Shared) (H : Hp) (us : List Value) (vs : List V) (ws : List (Option V)) (Q : VK) (E : XK), Room k A → Env0 P w K mg base A outer s H → H f = some (LamO f F body) →
    H F.c = some (CodeO F.c F.qual) → CellsAt F.cl fr ws s.heap H → Vals vs us → sp ws vs H Q E → codeAny (model P w) A (.call (.ref f) ⟨us, []⟩) (CR CX outer P w H s Q E) s
section
variable {CX : CXT} {P : Program} {w : World} {K : PySem.W.Frag} {mg : Str → Option Value} {base : Heap} {N ps fr : List Str} {F : NF} {f : Addr} {k : Nat} {sp : List (Option V) → Sp} {body : Expr}
theorem lok_of (S : NScope N ps fr F.scope) (hb : ∀ (pm ctv : Value) (us : List Value), us.length = ps.length → bindArgs (PySem.W.kla_fn F.name F.qual F.params body F.scope F.cl pm (.ref F.c) ctv) ⟨us, []⟩ = pure (ps.zip us))
    (len : ∀ ws vs H Q E, sp ws vs H Q E → vs.length = ps.length)
    (hbody : ∀ (A : Around) (outer : List Env) (s : Shared) (H : Hp) (vs : List V) (ws : List (Option V)) (Q : VK) (E : XK), Room k (A.deeper (envF F f s.heap.objs.size)) → ws.length = fr.length → sp ws vs H Q E →
      ∃ t, PE (ncx CX P w K mg base N F f A outer s H E) body t ∧ t (startF N vs ws) H Q) : LOk P w K mg base CX (k + 1) f F body ps fr sp := by
  constructor
  · exact len
  intro A outer s H us vs ws Q E hr e0 hf hc C r hsp
  have hl := len _ _ _ _ _ hsp
  have lim : s.heap.NoLimit := e0.mod.nolimit.keeps fun b o e => (e0.bs b o e).1
  obtain ⟨pm, ctv, ho⟩ := lamO_at e0.hok hf
  obtain ⟨⟨oc, vc, t, hoc, hdc, hvc⟩, _, _⟩ := e0.hok F.c _ hc
  refine PySem.W.kla_callFunE hr.depth ho rfl S.co S.gen rfl ⟨F.c, oc, vc, t, rfl, hoc, hdc, hvc⟩ ?_
  rw [hb pm ctv us (by rw [← r.length]; exact hl)]
  refine wpAny_pure (wpAny_newFunctionEnv S.nocell (fun y hy => S.par y.1 (List.of_mem_zip hy).1) (fun h₁ hns hsb => ⟨lim.fresh _ hsb, ?_⟩) S.kind)
  show codeAny _ _ (.expr body (envF F f s.heap.objs.size)) _ _
  obtain ⟨t2, ht, hq⟩ := hbody A outer s H vs ws Q E (hr.deeper _) C.len hsp
  have J := inv_startN (CX := CX) (N := N) (w := w) (E := E) (F := F) (f := f) (tk := s.toks + (ps.zip us).length) S hr.hd e0 hl r C hns (fun b o e => hsb.extBut b o (Nat.ne_of_lt (Heap.lt_size e)) (Heap.get?_push_of_some _ e))
  refine PySem.W.kla_codeExpr (wpAny_mono (ht.run [] _ (startF N vs ws) H Q J hq) (fun v s' z => ?_) fun e s' z => z)
  obtain ⟨u, H', J', rv, qv⟩ := z
  exact ⟨u, H', J'.os, J'.bare, J'.base, J'.hok, rv, qv⟩
end
/-- a def that is given a closure: its promise, the captured cells known at the call -/
structure FnC (P : Program) (w : World) (K : PySem.W.Frag) (mg : Str → Option Value) (base : Heap) (CX : CXT) (k : Nat) (g : Addr) (gd : FuncData) (ps : List Str) (cl : List (Str × Addr)) (fr : List Str) (sp : List (Option V) → Sp) : Prop where
  run : ∀ (A : Around) (outer : List Env) (s : Shared) (H : Hp) (args : Args) (us : List Value) (vs : List V) (ws : List (Option V)) (Q : VK) (E : XK), Room k A → Env0 P w K mg base A outer s H → BindsTo s gd args (ps.zip us) → Vals vs us →
    CellsAt cl fr ws s.heap H → sp ws vs H Q E → vs.length = ps.length → codeAny (model P w) A (.call (.ref g) args) (CR CX outer P w H s Q E) s
section
variable {CX : CXT} {P : Program} {w : World} {K : PySem.W.Frag} {mg : Str → Option Value} {base : Heap} {k : Nat} {g : Addr} {gd : FuncData} {x qual : Str} {st : Stmt} {N ps : List Str} {cl : List (Str × Addr)} {fr : List Str} {sp : List (Option V) → Sp}
theorem fnc_of (F : L2.Fun K x qual st g gd) (S : FnScope N ps (defScope st))
    (hbody : ∀ (cdv : Value) (A : Around) (outer : List Env) (s : Shared) (H : Hp) (vs : List V) (ws : List (Option V)) (Q : VK) (E : XK), Room k (A.deeper (envOfC qual (defScope st) s.heap.objs.size g cdv)) → CellsAt cl fr ws s.heap H → sp ws vs H Q E →
      ∃ t, PSs (cxOf CX0 P w K mg base N qual (defScope st) g cdv A outer s H E).nox (defBody st) t ∧ t { nx := fun _ H' => Q .non H', rt := Q } (start N vs) H) : FnC P w K mg base CX0 (k + 1) g gd ps cl fr sp := by
  obtain ⟨oc, od, kV, doc, pm, an, cdv, ct, osl, rfl, lk, hcd⟩ := F.ex
  constructor
  intro A outer s H args us vs ws Q E hr e0 hb r C hsp hl
  refine run_ofS lk hcd S hr e0 hb r hl fun hr' => ?_
  obtain ⟨t, ht, hq⟩ := hbody cdv A outer s H vs ws Q E hr' C hsp
  exact ⟨t, ht.nox, hq⟩
end
/-! ### the calls -/
def tHeld (i : Nat) (f : Addr) (F : NF) (body : Expr) (ws : List (Option V)) (sp : List (Option V) → Sp) (E : XK) (t : TA) : TE := fun σ H Q => σ[i]? = some (some (.ref f)) ∧ H f = some (LamO f F body) ∧
  t σ H fun vs H1 => H1 f = some (LamO f F body) ∧ H1 F.c = some (CodeO F.c F.qual) ∧ sp ws vs H1 Q E
theorem lam_fnAt {X : Cx} {pins : List (Addr × Obj)} {σ : L2.St} {H : Hp} {s : Shared} {f : Addr} {F : NF} {body : Expr} (I : Inv X pins σ H s) (e : H f = some (LamO f F body)) : PySem.W.FnAt f s.heap := by
  obtain ⟨pm, ctv, ho⟩ := lamO_at I.hok e
  exact ⟨_, _, _, _, ho⟩
section
variable {X : Cx} {CX : CXT} {i j k : Nat} {x : Str} {f : Addr} {F : NF} {body : Expr} {ps fr : List Str} {ws : List (Option V)} {sp : List (Option V) → Sp} {E : XK} {t : TA} {e : Expr} {es : List Expr} {p pos : Pos}
theorem pe_held (L : LOk X.prog X.w X.K X.mg X.base CX k f F body ps fr sp) (C : CellsAt F.cl fr ws X.s_0.heap X.H_0) (hex : X.ex = []) (hr : Room j X.A) (hk : k ≤ j) (hx : Passes CX X E) (hN : X.N[i]? = some x) (hv : Vis X.env.scope x)
    (ha : PA X (e :: es) t) (hd : (x == ("__debug__" : Str)) = false := by decide) (hcd : (x == ("__classdict__" : Str)) = false := by decide)
    (he : starEach (e :: es) X.env = (false, eval e X.env) :: starEach es X.env := by rfl) (hpl : (backTo pos (starEach es X.env)).any (·.1) = false := by rfl) :
    PE X (.Call (.Name x p) (e :: es) [] pos) (tHeld i f F body ws sp E t) := by
  constructor
  intro pins s σ H Q I h
  obtain ⟨hs, hf, ht⟩ := h
  refine wpAny_Call_Name_kw (thn ((pe_var (pos := p) hN hv hd hcd).run pins s σ H (fun v H1 => v = .ref f ∧ H1 = H) I ⟨.ref f, hs, rfl, rfl⟩) fun u s1 z => ?_)
  obtain ⟨v, H1, I1, r1, rfl, eH⟩ := z
  rw [eH] at I1
  cases (show u = Value.ref f from r1)
  refine PySem.W.callWith_F (first := []) (lam_fnAt I1 hf) (thn (ha.run pos pins s1 σ H _ I1 ht) fun us s2 z => ?_) he hpl
  obtain ⟨vs, H2, I2, r, h1, h2, q⟩ := z
  refine ⟨lam_fnAt I2 h1, ?_⟩
  refine wpAny_call (codeAny_mono (L.run X.A X.stack s2 H2 us vs ws Q E (hr.mono hk) I2.env0 h1 h2 (cells_later C hex I2) r q) fun r s' hq => ?_)
  cases r with
  | error e => exact hx pins σ H2 s2 e s' I2 hq
  | ok fl =>
    cases fl with
    | ret u => exact I2.after hq
    | next => exact hq.elim
    | brk => exact hq.elim
    | cont => exact hq.elim
/-- g(e, ..): a def of the text that is given a function which the running frame has made; js: where the captured names stand -/
def tCallC (js : List Nat) (sp : Addr → Addr → List (Option V) → Sp) (E : XK) (t : TA) : TE := fun σ H Q => t σ H fun vs H1 => ∃ f c', sp f c' (js.map (slotAt σ)) vs H1 Q E
theorem pe_callC {cl : List (Str × Addr)} {js : List Nat} {g : Addr} {gd : FuncData} {sp : Addr → Addr → List (Option V) → Sp} (G : ∀ f c', FnC X.prog X.w X.K X.mg X.base CX k g gd ps cl fr (sp f c')) (len : ∀ f c' ws vs H Q E, sp f c' ws vs H Q E → vs.length = ps.length) (cp : X.Ok → Caps X cl fr js) (hr : Room j X.A) (hk : k ≤ j)
    (hg : Gl X x) (hm : X.mg x = some (.ref g)) (hkp : PySem.W.keepIn X.K (.ref g) = true) (hb : Binds X.K gd ps []) (hx : Passes CX X E) (ha : PA X (e :: es) t) (hdb : (x == ("__debug__" : Str)) = false := by decide)
    (he : starEach (e :: es) X.env = (false, eval e X.env) :: starEach es X.env := by rfl) (hpl : (backTo pos (starEach es X.env)).any (·.1) = false := by rfl) :
    PE X (.Call (.Name x p) (e :: es) [] pos) (tCallC js sp E t) := by
  constructor
  intro pins s σ H Q I h
  refine wpAny_Call_Name_kw (ld_glob I hg hm ?_ hdb)
  refine PySem.W.callWith_K (h₀ := X.base) I.ok.mod.kin hkp (thn (ha.run pos pins s σ H _ I h) fun us s2 z => ?_) he hpl
  obtain ⟨vs, H2, I2, r, f0, c0, q⟩ := z
  refine ⟨I2.kIn, ?_⟩
  have hl := len _ _ _ _ _ _ _ q
  have bt : BindsTo s2 gd ⟨us, []⟩ (ps.zip us) := by
    have b := hb s2 us I2.kIn (by rw [List.append_nil, ← r.length]; exact hl)
    rw [List.append_nil] at b
    exact b
  refine wpAny_call (codeAny_mono ((G f0 c0).run X.A X.stack s2 H2 ⟨us, []⟩ us vs _ Q E (hr.mono hk) I2.env0 bt r (cells_of I2 (cp I2.ok)) q hl) fun r s' hq => ?_)
  cases r with
  | error e => exact hx pins σ H2 s2 e s' I2 hq
  | ok fl =>
    cases fl with
    | ret u => exact I2.after hq
    | next => exact hq.elim
    | brk => exact hq.elim
    | cont => exact hq.elim
end
/-! ### the lambda itself -/
def tLamE (T : List (Addr × Str)) (q : Str) (mk : Addr → NF) (body : Expr) : TE := fun _ H Q => Tabs T H ∧ ∀ (f c' : Addr) (H1 : Hp), ExtN H H1 → (∀ b, H1 b = none → H b = none) → Tabs T H1 → H f = none → H1 f = some (LamO f (mk c') body) → H1 c' = some (CodeO c' q) → Q (.ref f) H1
section
variable {X : Cx} {pins : List (Addr × Obj)} {σ : L2.St} {H : Hp} {s : Shared}
theorem lam_laid {F : NF} {body : Expr} {pm ctv : Value} {t' : Nat} (I : Inv X pins σ H s) :
    Inv X pins σ (upd H s.heap.objs.size (LamO s.heap.objs.size F body)) { s with heap := s.heap.push (PySem.W.kla_obj F.name F.qual F.params body F.scope F.cl pm F.c ctv), toks := t' } := by
  have e : (s.heap.push (PySem.W.kla_obj F.name F.qual F.params body F.scope F.cl pm F.c ctv)).get? s.heap.objs.size = some (PySem.W.kla_obj F.name F.qual F.params body F.scope F.cl pm F.c ctv) := Heap.get?_push_size _ rfl
  exact I.laid (a := s.heap.objs.size) (o := LamO s.heap.objs.size F body) (fun b u q => Heap.get?_push_of_some _ q) (Nat.le_refl _) ⟨⟨pm, ctv, e⟩, ⟨_, e⟩, fun h1 h2 ⟨a, b, z⟩ st => ⟨a, b, st _ z⟩⟩
theorem pe_lambda {T : List (Addr × Str)} {c P : Addr} {params : Arguments} {body : Expr} {scope : Scope} {pos : Pos} (TB : TabB X.base X.mg c P) (hcode : X.env.code = .ref c) (hm : (P, X.env.qual ++ "<lambda>") ∈ T)
    (hu : ∀ p ∈ T, p.1 = P → p.2 = X.env.qual ++ "<lambda>") (hdef : defaultsOf params X.env = ([], [])) (hfree : X.Ok → ∀ y ∈ scope.names, y.2 = .free → ∃ c, X.env.cells.lookup y.1 = some c) :
    PE X (.Lambda params body scope pos) (tLamE T (X.env.qual ++ "<lambda>") (fun c' => ⟨"<lambda>", X.env.qual ++ "<lambda>", params, [], scope, cloFrom X.env.cells scope.names [], c'⟩) body) := by
  constructor
  intro pins s σ H Q I hq
  obtain ⟨hT, h⟩ := hq
  obtain ⟨ps, hP, ht, ha⟩ := hT _ hm
  have bP : s.heap.BuiltinsAt X.mg P := TB.bm.keeps I.bk
  have hP' : s.heap.get? P = some { cls := .none, data := .fields ps } := I.hok P _ hP
  refine PySem.W.kla_eval hdef ?_
  rcases hc : codeAmong pos ps.toList with _ | cv
  · -- a new code object
    refine PySem.W.kla_makeFunction (mg := X.mg) (c := c) (P := P) (ps := ps) (closure_ok (hfree I.ok)) I.ok.glob (I.mod.glob.keeps I.bk) hcode (TB.code.keeps I.bk) hP' ht hc TB.gP bP fun c' ctv h' tk hx hge hlt hrec htb => ?_
    obtain ⟨c2, oc, vs, t, e2, hoc, hd, hv⟩ := hrec
    cases e2
    have nC : H c' = none := I.hok.fresh hge
    have nPC : P ≠ c' := ne_of_none hP nC
    have I1 : Inv X pins σ (upd (upd H P (.tbl (ps ++ #[rawInt pos.line, rawInt pos.col, .ref c']))) c' (CodeO c' (X.env.qual ++ "<lambda>"))) { s with heap := h', toks := tk } :=
      inv_table I hP (fun b o hb e => hx b o hb e) htb hge ⟨oc, vs, t, hoc, hd, hv⟩
    have nF : upd (upd H P (.tbl (ps ++ #[rawInt pos.line, rawInt pos.col, .ref c']))) c' (CodeO c' (X.env.qual ++ "<lambda>")) h'.objs.size = none := I1.hok.fresh (Nat.le_refl _)
    have I2 := lam_laid (F := ⟨"<lambda>", X.env.qual ++ "<lambda>", params, [], scope, cloFrom X.env.cells scope.names [], c'⟩) (body := body) (pm := (X.mg "__name__").getD .none) (ctv := ctv) (t' := tk) I1
    have nF0 : H h'.objs.size = none := upd_none (upd_none nF)
    have old : ∀ b o, H b = some o → (∀ q, o ≠ .tbl q) → upd (upd (upd H P (.tbl (ps ++ #[rawInt pos.line, rawInt pos.col, .ref c']))) c' (CodeO c' (X.env.qual ++ "<lambda>"))) h'.objs.size (LamO h'.objs.size ⟨"<lambda>", X.env.qual ++ "<lambda>", params, [], scope, cloFrom X.env.cells scope.names [], c'⟩ body) b = some o := fun b o e n => by
      rw [upd_ne (ne_of_none e nF0), upd_ne (ne_of_none e nC), upd_ne (fun z => n ps (Option.some.inj (e.symm.trans (by rw [z]; exact hP))))]
      exact e
    have atC : upd (upd (upd H P (.tbl (ps ++ #[rawInt pos.line, rawInt pos.col, .ref c']))) c' (CodeO c' (X.env.qual ++ "<lambda>"))) h'.objs.size (LamO h'.objs.size ⟨"<lambda>", X.env.qual ++ "<lambda>", params, [], scope, cloFrom X.env.cells scope.names [], c'⟩ body) c' = some (CodeO c' (X.env.qual ++ "<lambda>")) := by
      rw [upd_ne (ne_of_none upd_same nF), upd_same]
    refine ⟨.ref h'.objs.size, _, I2, rfl, h h'.objs.size c' _ old (fun b e => upd_none (upd_none (upd_none e))) (fun p hp => ?_) nF0 upd_same atC⟩
    by_cases hb : p.1 = P
    · rw [hu p hp hb, hb]
      have eL : (ps ++ #[rawInt pos.line, rawInt pos.col, .ref c']).toList = ps.toList ++ [rawInt pos.line, rawInt pos.col, .ref c'] := by simp
      refine ⟨ps ++ #[rawInt pos.line, rawInt pos.col, .ref c'], ?_, by rw [eL]; exact PySem.TriplesOk_snoc _ _ _ _ ht, fun p' cv q => ?_⟩
      · have atP : upd (upd H P (.tbl (ps ++ #[rawInt pos.line, rawInt pos.col, .ref c']))) c' (CodeO c' (X.env.qual ++ "<lambda>")) P = some (.tbl (ps ++ #[rawInt pos.line, rawInt pos.col, .ref c'])) := by rw [upd_ne nPC, upd_same]
        exact (upd_ne (ne_of_none atP nF)).trans atP
      · rw [eL] at q
        rcases among_app _ ht q with q | q
        · obtain ⟨c0, e1, e3⟩ := ha p' cv q
          exact ⟨c0, e1, old _ _ e3 codeO_ne⟩
        · exact ⟨c', q, atC⟩
    · obtain ⟨ps', a1, a2, a3⟩ := hT p hp
      refine ⟨ps', ?_, a2, fun p' cv q => ?_⟩
      · rw [upd_ne (ne_of_none a1 nF0), upd_ne (ne_of_none a1 nC), upd_ne hb]
        exact a1
      · obtain ⟨c0, e1, e3⟩ := a3 p' cv q
        exact ⟨c0, e1, old _ _ e3 codeO_ne⟩
  · -- the code object stands in the table
    obtain ⟨c', e, hco⟩ := ha pos cv hc
    subst e
    refine PySem.W.kla_makeFunctionHit (mg := X.mg) (c := c) (P := P) (ps := ps) (closure_ok (hfree I.ok)) I.ok.glob (I.mod.glob.keeps I.bk) hcode (TB.code.keeps I.bk) hP' ht hc bP fun ctv h' tk hx hsz => ?_
    have I1 : Inv X pins σ H { s with heap := h', toks := tk } := I.kept hx
    have nF : H h'.objs.size = none := I1.hok.fresh (Nat.le_refl _)
    have I2 := lam_laid (F := ⟨"<lambda>", X.env.qual ++ "<lambda>", params, [], scope, cloFrom X.env.cells scope.names [], c'⟩) (body := body) (pm := (X.mg "__name__").getD .none) (ctv := ctv) (t' := tk) I1
    have sm : ∀ b o, H b = some o → upd H h'.objs.size (LamO h'.objs.size ⟨"<lambda>", X.env.qual ++ "<lambda>", params, [], scope, cloFrom X.env.cells scope.names [], c'⟩ body) b = some o := fun b o q => by
      rw [upd_ne (ne_of_none q nF)]
      exact q
    exact ⟨.ref h'.objs.size, _, I2, rfl, h h'.objs.size c' _ (ExtN.of sm) (fun b q => upd_none q) (hT.ext sm) nF upd_same (sm _ _ hco)⟩
end
end Clo

set_option Elab.async false
set_option linter.all false
set_option maxRecDepth 100000
set_option maxHeartbeats 1000000
/-! defs that show data as texts: what stands around them shows nothing; the end of a law that does so -/
namespace Grd
open PySem PySem.Spec PyProof.Rows L2 LamX NdefX Clo
section
variable {X : Cx}
theorem call_repr (hg : X.A.guards = some []) (hu : X.A.units + 100 < cLine) : CallR X (.builtin "repr") (fun xs H Q => ∃ (a : Addr) (d : PyData), xs = [.ref a] ∧ Dp X.K H (.ref a) d ∧ d.showable = true ∧ d.hasDict = false ∧ d.depth ≤ 64 ∧ d.shown.length ≤ sizeLine ∧ Q (.str d.shown) H) := by
  intro pins s σ H xs us Q I r h
  obtain ⟨a, d, rfl, hd, h1, h2, h3, h4, q⟩ := h
  obtain ⟨u, rfl, rx⟩ := vals1 r
  cases (show u = Value.ref a from rx)
  obtain ⟨as, rd⟩ := Dp.reads I d (.ref a) (.ref a) hd rfl
  exact repr_of_reads' rd h1 (PyData.noDict_hsm h2) hg (by omega) (fun _ _ e => e) (fun h' u tk hk => ⟨.str d.shown, H, I.kept (t' := tk) hk, ⟨u, rfl⟩, q⟩) h4
end
structure FnG (P : Program) (w : World) (K : PySem.W.Frag) (mg : Str → Option Value) (base : Heap) (CX : CXT) (k : Nat) (f : Addr) (fd : FuncData) (ps : List Str) (sp : Sp) : Prop where
  len : ∀ vs H Q E, sp vs H Q E → vs.length = ps.length
  run : ∀ (A : Around) (outer : List Env) (s : Shared) (H : Hp) (args : Args) (us : List Value) (vs : List V) (Q : VK) (E : XK), Room k A → A.guards = some [] → Env0 P w K mg base A outer s H → BindsTo s fd args (ps.zip us) → Vals vs us → sp vs H Q E →
    codeAny (model P w) A (.call (.ref f) args) (CR CX outer P w H s Q E) s
section
variable {P : Program} {w : World} {K : PySem.W.Frag} {mg : Str → Option Value} {base : Heap} {k : Nat} {g : Addr} {gd : FuncData} {x qual : Str} {st : Stmt} {N ps : List Str} {sp : Sp}
theorem fng_of (F : L2.Fun K x qual st g gd) (S : FnScope N ps (defScope st)) (len : ∀ vs H Q E, sp vs H Q E → vs.length = ps.length)
    (hbody : ∀ (cdv : Value) (A : Around) (outer : List Env) (s : Shared) (H : Hp) (vs : List V) (Q : VK) (E : XK), Room k (A.deeper (envOfC qual (defScope st) s.heap.objs.size g cdv)) → (A.deeper (envOfC qual (defScope st) s.heap.objs.size g cdv)).guards = some [] → sp vs H Q E →
      ∃ t, PSs (cxOf CX0 P w K mg base N qual (defScope st) g cdv A outer s H E).nox (defBody st) t ∧ t { nx := fun _ H' => Q .non H', rt := Q } (start N vs) H) : FnG P w K mg base CX0 (k + 1) g gd ps sp := by
  obtain ⟨oc, od, kV, doc, pm, an, cdv, ct, osl, rfl, lk, hcd⟩ := F.ex
  constructor
  · exact len
  intro A outer s H args us vs Q E hr hg e0 hb r hsp
  refine run_ofS lk hcd S hr e0 hb r (len _ _ _ _ hsp) fun hr' => ?_
  obtain ⟨t, ht, hq⟩ := hbody cdv A outer s H vs Q E hr' hg hsp
  exact ⟨t, ht.nox, hq⟩
end
section
variable {X : Cx} {CX : CXT} {j k : Nat} {x : Str} {ps : List Str} {sp : Sp} {E : XK} {t : TA} {e : Expr} {es : List Expr} {p pos : Pos} {g : Addr} {gd : FuncData}
theorem pe_callG (G : FnG X.prog X.w X.K X.mg X.base CX k g gd ps sp) (hr : Room j X.A) (hk : k ≤ j) (hgd : X.A.guards = some [])
    (hg : Gl X x) (hm : X.mg x = some (.ref g)) (hkp : PySem.W.keepIn X.K (.ref g) = true) (hb : Binds X.K gd ps []) (hx : Passes CX X E) (ha : PA X (e :: es) t) (hdb : (x == ("__debug__" : Str)) = false := by decide)
    (he : starEach (e :: es) X.env = (false, eval e X.env) :: starEach es X.env := by rfl) (hpl : (backTo pos (starEach es X.env)).any (·.1) = false := by rfl) :
    PE X (.Call (.Name x p) (e :: es) [] pos) (tCall sp [] E t) := by
  constructor
  intro pins s σ H Q I h
  refine wpAny_Call_Name_kw (ld_glob I hg hm ?_ hdb)
  refine PySem.W.callWith_K (h₀ := X.base) I.ok.mod.kin hkp (thn (ha.run pos pins s σ H _ I h) fun us s2 z => ?_) he hpl
  obtain ⟨vs, H2, I2, r, q⟩ := z
  have q : sp vs H2 Q E := by
    have q' : sp (vs ++ []) H2 Q E := q
    rw [List.append_nil] at q'
    exact q'
  refine ⟨I2.kIn, ?_⟩
  have hl := G.len _ _ _ _ q
  have bt : BindsTo s2 gd ⟨us, []⟩ (ps.zip us) := by
    have b := hb s2 us I2.kIn (by rw [List.append_nil, ← r.length]; exact hl)
    rw [List.append_nil] at b
    exact b
  refine wpAny_call (codeAny_mono (G.run X.A X.stack s2 H2 ⟨us, []⟩ us vs Q E (hr.mono hk) hgd I2.env0 bt r q) fun r s' hq => ?_)
  cases r with
  | error e => exact hx pins σ H2 s2 e s' I2 hq
  | ok fl =>
    cases fl with
    | ret u => exact I2.after hq
    | next => exact hq.elim
    | brk => exact hq.elim
    | cont => exact hq.elim
end
end Grd

set_option Elab.async false
set_option linter.all false
set_option maxRecDepth 100000
set_option maxHeartbeats 1000000
namespace Dat
open PySem PySem.Spec PyProof.Rows L2
/-! ### rules of my own for the derivations -/
section
variable {X : Cx} {CX : CXT} {k : Nat} {f : Addr} {fd : FuncData} {ps ks : List Str} {sp : Sp} {E : XK} {x : Str} {p pos : Pos} {kws : List Keyword} {tk : TA} {g : List Value → List Value → List Value} {gV : List V → List V → List V}
/-- a call with keywords alone -/
theorem pe_callN0 (F : FnOk X.prog X.w X.K X.mg X.base CX k f fd ps sp) (hr : Room k X.A) (hg : Gl X x) (hm : X.mg x = some (.ref f)) (hk : PySem.W.keepIn X.K (.ref f) = true) (hb : KBn X.K fd ps 0 ks g gV) (hx : Passes CX X E)
    (hkw : PK X kws tk) (hall : (backToKw pos (keywordEach kws X.env)).all (·.1.isSome) = true := by rfl) (hks : (backToKw pos (keywordEach kws X.env)).filterMap (·.1) = ks := by rfl)
    (hdb : (x == ("__debug__" : Str)) = false := by decide)
    (hpl : ((backTo pos (starEach [] X.env)).any (·.1) || (backToKw pos (keywordEach kws X.env)).any (·.1.isNone)) = false := by rfl) :
    PE X (.Call (.Name x p) [] kws pos) (tCallN 0 ks.length sp gV E tNil tk) := by
  refine ⟨fun pins s σ H Q I h => ?_⟩
  refine wpAny_Call_Name_kw (ld_glob I hg hm ?_ hdb)
  refine PySem.W.callWith_KW0 (h₀ := X.base) I.ok.mod.kin hk hall ?_ hpl
  refine thn (hkw.run pos pins s σ H _ I h) fun ws s2 ⟨zs, H2, I2, rz, l1, l2, q2⟩ => ⟨I2.kIn, ?_⟩
  rw [hks]
  exact run_fnN F hr hb hx I2 .nil rz rfl l2 q2
end
theorem pe_tupleK {X : Cx} {K : PySem.W.Frag} [Tb K] {a : Expr} {ta : TE} {p pos : Pos} (hK : X.K = K) (hg : Gl X "tuple") (hm : X.mg "tuple" = none) (ha : PE X a ta) (na : starEach [a] X.env = (false, eval a X.env) :: starEach [] X.env := by rfl) :
    PE X (.Call (.Name "tuple" p) [a] [] pos) (tThen ta (kTup K)) := by
  subst hK
  exact pe_tupleOf hg hm ha na
/-- a statement that is never reached -/
theorem ps_dead {X : Cx} {st : Stmt} : PS X st (fun _ _ _ => False) := ⟨fun _ _ _ _ _ _ h => h.elim⟩
structure DefAt (K : PySem.W.Frag) (mg : Str → Option Value) (x : Str) (st : Stmt) (ps : List Str) (ds : List Value) (f : Addr) (fd : FuncData) : Prop where
  F : L2.Fun K x x st f fd
  g : mg x = some (.ref f)
  b : Binds K fd ps ds
theorem hu64 {A : Around} {k : Nat} (hr : Room k A) : A.units + 64 < cLine := by
  have := hr.un
  omega
theorem hu100 {A : Around} {k : Nat} (hr : Room k A) : A.units + 100 < cLine := by
  have := hr.un
  omega
theorem bt_len : bootBuiltins "len" = some (.builtin "len") := by decide +kernel
theorem bt_isinstance : bootBuiltins "isinstance" = some (.builtin "isinstance") := by decide +kernel
theorem bt_abs : bootBuiltins "abs" = some (.builtin "abs") := by decide +kernel
theorem bt_all : bootBuiltins "all" = some (.builtin "all") := by decide +kernel
theorem bt_any : bootBuiltins "any" = some (.builtin "any") := by decide +kernel
theorem bt_sum : bootBuiltins "sum" = some (.builtin "sum") := by decide +kernel
theorem bt_max : bootBuiltins "max" = some (.builtin "max") := by decide +kernel
theorem bt_min : bootBuiltins "min" = some (.builtin "min") := by decide +kernel
theorem bt_sorted : bootBuiltins "sorted" = some (.builtin "sorted") := by decide +kernel
theorem bt_repr : bootBuiltins "repr" = some (.builtin "repr") := by decide +kernel
theorem bt_int : bootBuiltins "int" = some (.type "int") := by decide +kernel
theorem bt_bool : bootBuiltins "bool" = some (.type "bool") := by decide +kernel
theorem bt_tuple : bootBuiltins "tuple" = some (.type "tuple") := by decide +kernel
theorem bt_list : bootBuiltins "list" = some (.type "list") := by decide +kernel
theorem bt_str : bootBuiltins "str" = some (.type "str") := by decide +kernel
theorem bt_set : bootBuiltins "set" = some (.type "set") := by decide +kernel
theorem bt_range : bootBuiltins "range" = some (.type "range") := by decide +kernel
theorem bt_enumerate : bootBuiltins "enumerate" = some (.type "enumerate") := by decide +kernel
theorem bt_zip : bootBuiltins "zip" = some (.type "zip") := by decide +kernel
/-! ### defs that show data as texts -/
section
variable {P : Program} {w : World} {K : PySem.W.Frag} [Tb K] {mg : Str → Option Value} {base : Heap}
theorem fngA_ok {x qual : Str} {st : Stmt} {f : Addr} {fd : FuncData} {N ps : List Str} {k : Nat} {sp : ASp} (F : L2.Fun K x qual st f fd) (S : FnScope N ps (defScope st)) (len : ∀ as Ω P, sp as Ω P → as.length = ps.length)
    (hbody : ∀ (cdv : Value) (A : Around) (outer : List Env) (s : Shared) (H : Hp) (E : XK), Room k (A.deeper (envOfC qual (defScope st) s.heap.objs.size f cdv)) → (A.deeper (envOfC qual (defScope st) s.heap.objs.size f cdv)).guards = some [] →
      ∃ t, PSs (cxOf CX0 P w K mg base N qual (defScope st) f cdv A outer s H E).nox (defBody st) t ∧ ∀ as Ω P, sp as Ω P → SW K t (as.map some ++ List.replicate (N.length - as.length) none) Ω { nx := fun _ Ω' => P (.dat .none) Ω', rt := P }) :
    Grd.FnG P w K mg base CX0 (k + 1) f fd ps (spA K sp) := by
  refine Grd.fng_of F S (spA_len len) fun cdv A outer s H vs Q E hr hg h => ?_
  obtain ⟨t, ht, hs⟩ := hbody cdv A outer s H E hr hg
  obtain ⟨F0, Ω, as, P, k0, va, h, hq⟩ := h
  refine ⟨t, ht, hs as Ω P h F0 (L2.start N vs) H _ ⟨k0.fr, k0.st, ?_, k0.tb, k0.ob⟩ ⟨fun Γ' σ' Ω' H' hp k' => hq _ _ _ _ hp k'.bare (.dat .non), fun a v Ω' H' hp k' hv => hq _ _ _ _ hp k' hv, fun _ _ _ _ z => z.elim, fun _ _ _ _ z => z.elim⟩⟩
  unfold L2.start
  rw [va.length]
  exact Slots.start (N := N) va _
end
end Dat

set_option Elab.async false
set_option linter.all false
set_option maxRecDepth 100000
set_option maxHeartbeats 1000000
namespace PySem.SeqAt
open AutoSeq1 (wpAny_loadPart')
open MeetsSeq
theorem str_eq_declines_dict (b : Str) (u : Tok) (l : Addr) (es : Array DictEntry) (n : Nat) (dd : Option Addr) (sl : Array (Option Value)) :
    Meets (Builtin.«str.__eq__» ⟨[.str b u, .ref l], []⟩) (fun _ R s => s.heap.get? l = some { cls := .type "dict", dict := dd, data := .dict es n, slots := sl } ∧ R (.ok (.ret .notImplemented)) s) :=
  .of_wp fun prog w A R s h => by obtain ⟨hp, g, d, tk, os⟩ := s; obtain ⟨hl, h⟩ := h; wp_walk using wpAny_loadPart' hl, wpAny_load hl; exact ⟨_, rfl, h⟩
theorem dict_eq_declines_str (l : Addr) (es : Array DictEntry) (n : Nat) (dd : Option Addr) (sl : Array (Option Value)) (b : Str) (u : Tok) :
    Meets (Builtin.«dict.__eq__» ⟨[.ref l, .str b u], []⟩) (fun _ R s => s.heap.get? l = some { cls := .type "dict", dict := dd, data := .dict es n, slots := sl } ∧ R (.ok (.ret .notImplemented)) s) :=
  .of_wp fun prog w A R s h => by obtain ⟨hp, g, d, tk, os⟩ := s; obtain ⟨hl, h⟩ := h; have f1 := F.sub_str_dict; wp_walk using wpAny_loadPart' hl, wpAny_load hl; exact ⟨_, rfl, h⟩
section
variable {A : Around} {s : Shared}
theorem EqAt.str_dict {l : Addr} {o : Obj} {es : Array DictEntry} {n : Nat} (b : Str) (u : Tok) (h0 : s.heap.get? l = some o) (hc : o.cls = .type "dict") (hd : o.data = .dict es n) (hu : A.units < cLine) : EqAt A s (.str b u) (.ref l) false := fun prog w E Q h => by
  obtain ⟨cls, dd, data, sl⟩ := o
  simp only at hc hd
  subst hc hd
  unfold eqBool
  refine wpAny_holding ?_
  refine wpAny_ite_split (fun hab => absurd (eq_of_beq hab) nofun) (fun _ => ?_)
  refine wpAny_bind (rc_eq_decline_or (k := false) (typeIs_str s b u) ⟨_, h0, rfl⟩ (by decide) F.sub_dict_str F.slot_str_eq F.slot_dict_eq_refl
    (fun _ hq => call_meets F.slot_str_eq (typeIs_str s b u) F.entry_str_eq (F.args_str_eq_2 _ _) (str_eq_declines_dict b u l es n dd sl) ⟨h0, hq⟩)
    (fun _ hq => call_meets F.slot_dict_eq_refl ⟨_, h0, rfl⟩ F.entry_dict_eq (F.args_dict_eq_2 _ _) (dict_eq_declines_str l es n dd sl b u) ⟨h0, hq⟩)
    (fun _ hq => wpAny_of_eq (rfl : isSame (.str b u) (.ref l) = pure false) hq) (.inr hu) (wpAny_truthy_bool h))
end
end PySem.SeqAt
namespace Dat
open PySem PySem.Spec PyProof.Rows L2
def isStr (w : Str) : PyData → Bool
  | .str x => w == x
  | _ => false
section
variable {X : Cx} {pins : List (Addr × Obj)} {σ : L2.St} {H : Hp} {s : Shared}
theorem dict_at (I : Inv X pins σ H s) {a : Addr} (h : H a = some (.dK [])) : (a == sysModules) = false ∧ ∃ o n, s.heap.get? a = some o ∧ o.cls = .type "dict" ∧ o.data = .dict #[] n := by
  obtain ⟨_, h1, vs, kv, o, es, ep, e1, e2, e3, e4⟩ := dk_of I.hok h
  have hv : vs = [] := by
    cases kv
    rfl
  subst hv
  refine ⟨h1, o, ep, e1, e2.1, ?_⟩
  rw [e3]
  have : es.size = 0 := by
    have := e4.2.1.length
    simpa using this
  rw [Array.eq_empty_of_size_eq_zero this]
theorem str_at (I : Inv X pins σ H s) {A : Around} (hu : A.units < cLine) {v : V} {u : Value} {d : PyData} (h : Dq X.K H v d) (r : RelV v u) (w : Str) (t : Tok) : SeqAt.EqAt A s (.str w t) u (isStr w d) := by
  cases h with
  | non => cases r; exact SeqAt.EqAt.str_none w t
  | bl b => cases r; exact SeqAt.EqAt.str_bool w t b
  | int i => obtain ⟨t', rfl⟩ := r; exact SeqAt.EqAt.str_int w t i t'
  | str x => obtain ⟨t', rfl⟩ := r; exact SeqAt.EqAt.str_str w t x t'
  | lst h _ =>
    cases r
    obtain ⟨its, rv, p, _⟩ := I.list (SqL.of h)
    exact SeqAt.EqAt.str_list w t p.isList hu
  | tup h _ =>
    cases r
    obtain ⟨its, rv, p, _⟩ := I.tuple h
    exact SeqAt.EqAt.str_tuple w t p hu
  | dct h =>
    cases r
    obtain ⟨_, o, n, e1, e2, e3⟩ := dict_at I h
    exact SeqAt.EqAt.str_dict w t e1 e2 e3 hu
def isStrU (d : PyData) (u : Value) : Bool := match u with
  | .str w _ => isStr w d
  | _ => false
theorem any_str {d : PyData} : ∀ {ws : List Str} {us : List Value}, Vals (ws.map V.str) us → us.any (isStrU d) = ws.any fun w => isStr w d
  | [], _, h => by cases h; rfl
  | w :: r, _, h => by
    rw [List.map_cons] at h
    cases h with | cons r1 r2 =>
      obtain ⟨t, rfl⟩ := r1
      rw [List.any_cons, List.any_cons, any_str r2]
      rfl
theorem mem_str (I : Inv X pins σ H s) {A : Around} (hu : A.units < cLine) {v : V} {u : Value} {d : PyData} (h : Dq X.K H v d) (r : RelV v u) : ∀ {ws : List Str} {us : List Value}, Vals (ws.map V.str) us → ∀ y ∈ us, SeqAt.EqAt A s y u (isStrU d y)
  | [], _, g, y, hy => by cases g; cases hy
  | w :: ws, _, g, y, hy => by
    rw [List.map_cons] at g
    cases g with | cons r1 r2 =>
      obtain ⟨t, rfl⟩ := r1
      rcases List.mem_cons.mp hy with rfl | hy
      · exact str_at I hu h r w t
      · exact mem_str I hu h r r2 y hy
/-- any datum in a tuple of texts -/
def rInStr (K : PySem.W.Frag) : R2 := fun x y H Q => ∃ (p : Addr) (ws : List Str) (d : PyData), y = .ref p ∧ SqT K H p (ws.map V.str) ∧ Dq K H x d ∧ Q (.bl (ws.any fun w => isStr w d)) H
theorem op_inStr {X : Cx} (hu : X.A.units + 64 < cLine) : OpR X (compareOp .In) (rInStr X.K) := by
  intro pins s σ H x y v u Q I rx ry h
  obtain ⟨p, ws, d, rfl, hq, hd, q⟩ := h
  cases ry
  obtain ⟨its, r, tp, hz⟩ := I.tuple hq
  refine SeqAt.in_tupleAt (isStrU d) (show s.heap.IsTuple p its.toArray from tp) (fun z hz' => mem_str I (by show X.A.units + 1 < cLine; omega) hd rx r z (by simpa using hz')) ⟨.bl _, H, I, rfl, ?_⟩
  rw [show its.toArray.any (isStrU d) = its.any (isStrU d) by simp, any_str r]
  exact q
theorem r_inStr {K : PySem.W.Frag} [Tb K] {Ω : AH} {P : Av → AH → Prop} {d : PyData} {ws : List Str} (h : P (.dat (.bool (ws.any fun w => isStr w d))) Ω) : R2W K (rInStr K) (.dat d) (.dat (.tuple (ws.map PyData.str))) Ω P := fun F H x y Q k hx hy q => by
  cases hx with | dat hx => cases hy with | dat hy => cases hy with | tup hs g =>
    have e : ∀ {ws : List Str} {vs : List V}, DqAll K (Fz Ω H) vs (ws.map PyData.str) → vs = ws.map V.str := by
      intro ws
      induction ws with
      | nil => intro vs g; cases g; rfl
      | cons w r ih =>
        intro vs g
        rw [List.map_cons] at g
        cases g with | cons h g =>
          cases h
          rw [ih g, List.map_cons]
    rw [e g] at hs
    exact ⟨_, ws, d, rfl, sqT_same Fz_le hs, hx.same Fz_le, q _ _ _ _ h k (.dat (.bl _))⟩
/-! ### repr -/
mutual
def noList : PyData → Bool
  | .list _ => false
  | .tuple ds => noListAll ds
  | _ => true
def noListAll : List PyData → Bool
  | [] => true
  | d :: r => noList d && noListAll r
end
mutual
theorem Dq.reads (I : Inv X pins σ H s) : ∀ (d : PyData) (v : V) (u : Value), Dq X.K H v d → RelV v u → ∃ as, Reads s.heap u d as ∧ (noList d = true → sysModules ∉ as)
  | .none, _, _, h, r => by
    cases h
    cases r
    exact ⟨_, Reads.none, fun _ => nofun⟩
  | .bool b, _, _, h, r => by
    cases h
    cases r
    exact ⟨_, Reads.bool b, fun _ => nofun⟩
  | .int i, _, _, h, r => by
    cases h
    obtain ⟨t, rfl⟩ := r
    exact ⟨_, Reads.int i t, fun _ => nofun⟩
  | .str x, _, _, h, r => by
    cases h
    obtain ⟨t, rfl⟩ := r
    exact ⟨_, Reads.str x t, fun _ => nofun⟩
  | .list ds, _, _, h, r => by
    cases h with
    | lst hs ha =>
      cases r
      obtain ⟨its, rv, ⟨o, n, ho, hc, _, hd⟩, _⟩ := I.list (SqL.of hs)
      obtain ⟨as, hr, _⟩ := Dq.readsAll I ds _ its ha rv
      exact ⟨_, Reads.list ho hc hd hr, fun z => by simp [noList] at z⟩
  | .tuple ds, _, _, h, r => by
    cases h with
    | tup hs ha =>
      cases r
      obtain ⟨its, rv, ⟨o, ho, hc, n, hd⟩, _⟩ := I.tuple hs
      obtain ⟨as, hr, hn⟩ := Dq.readsAll I ds _ its ha rv
      exact ⟨_, Reads.tuple ho hc hd hr, fun z => hn (by simpa [noList] using z)⟩
  | .dict kvs, _, _, h, r => by
    cases h with
    | dct h =>
      cases r
      obtain ⟨h1, o, n, e1, e2, e3⟩ := dict_at I h
      refine ⟨_, Reads.dict (kvs := []) (as := []) (bs := []) e1 e2 e3 (by exact ReadsAll.nil) (by exact ReadsAll.nil), fun _ m => ?_⟩
      simp at m
      rw [m] at h1
      simp at h1
theorem Dq.readsAll (I : Inv X pins σ H s) : ∀ (ds : List PyData) (vs : List V) (us : List Value), DqAll X.K H vs ds → Vals vs us → ∃ as, ReadsAll s.heap us ds as ∧ (noListAll ds = true → sysModules ∉ as)
  | [], _, _, h, r => by
    cases h
    cases r
    exact ⟨_, ReadsAll.nil, fun _ => nofun⟩
  | d :: ds, _, _, h, r => by
    cases h with
    | cons h1 h2 =>
      cases r with
      | cons r1 r2 =>
        obtain ⟨as, q1, n1⟩ := Dq.reads I d _ _ h1 r1
        obtain ⟨bs, q2, n2⟩ := Dq.readsAll I ds _ _ h2 r2
        refine ⟨_, ReadsAll.cons q1 q2, fun z => ?_⟩
        rw [noListAll, Bool.and_eq_true] at z
        intro m
        rcases List.mem_append.mp m with m | m
        · exact n1 z.1 m
        · exact n2 z.2 m
end
end
def Shown (d : PyData) : Prop := d.showable = true ∧ (d.hasDict = true → noList d = true) ∧ d.depth ≤ 64 ∧ d.shown.length ≤ sizeLine
def rReprQ (K : PySem.W.Frag) : List V → Hp → VK → Prop := fun xs H Q => ∃ (v : V) (d : PyData), xs = [v] ∧ Dq K H v d ∧ Shown d ∧ Q (.str d.shown) H
theorem cl_repr {X : Cx} (hg : X.A.guards = some []) (hu : X.A.units + 100 < cLine) : CallR X (.builtin "repr") (rReprQ X.K) := by
  intro pins s σ H xs us Q I r h
  obtain ⟨v, d, rfl, hd, ⟨h1, h2, h3, h4⟩, q⟩ := h
  obtain ⟨u, rfl, rx⟩ := vals1 r
  have ref : ∀ a, v = .ref a → u = .ref a → wpAny (model X.prog X.w) X.A (call (.builtin "repr") [u]) (EP X pins σ Q) X.xe s := fun a ev eu => by
    subst ev eu
    obtain ⟨as, rd, hn⟩ := Dq.reads I d (.ref a) (.ref a) hd rfl
    exact repr_of_reads' rd h1 (fun z => hn (h2 z)) hg (by omega) (fun _ _ e => e) (fun h' u tk hk => ⟨.str d.shown, H, I.kept (t' := tk) hk, ⟨u, rfl⟩, q⟩) h4
  cases hd with
  | non =>
    cases rx
    exact PySem.P.repr_of_none ⟨.str "None", H, I.tok _, ⟨_, rfl⟩, by simpa [PyData.shown] using q⟩
  | bl b =>
    cases rx
    exact PySem.P.repr_of_bool ⟨.str (if b then "True" else "False"), H, I.tok _, ⟨_, rfl⟩, by simpa [PyData.shown] using q⟩
  | int i =>
    obtain ⟨t, rfl⟩ := rx
    exact PySem.P.repr_of_int (by simpa [PyData.showable] using h1) ⟨.str (toString i), H, I.tok _, ⟨_, rfl⟩, by simpa [PyData.shown] using q⟩
  | str x =>
    obtain ⟨t, rfl⟩ := rx
    exact PySem.P.repr_of_str ⟨.str (reprText x), H, I.tok _, ⟨_, rfl⟩, by simpa [PyData.shown] using q⟩ (by simpa [PyData.shown] using h4)
  | lst h g => exact ref _ rfl rx
  | tup h g => exact ref _ rfl rx
  | dct h => exact ref _ rfl rx
theorem c_repr {K : PySem.W.Frag} [Tb K] {Ω : AH} {P : Av → AH → Prop} {d : PyData} (s : Shown d) (h : P (.dat (.str d.shown)) Ω) : RCW K (rReprQ K) [.dat d] Ω P := fun F H xs Q k hx q => by
  cases hx with | cons hx g => cases g; cases hx with | dat hx =>
    exact ⟨_, d, rfl, hx.same Fz_le, s, q _ _ _ _ h k (.dat (.str _))⟩
/-! ### short words -/
inductive Dats : List Av → List PyData → Prop
  | nil : Dats [] []
  | cons {d : PyData} {as : List Av} {ds : List PyData} (h : Dats as ds) : Dats (.dat d :: as) (d :: ds)
theorem Dats.eq {as : List Av} {ds : List PyData} (h : Dats as ds) : as = ds.map .dat := by
  induction h with
  | nil => rfl
  | cons h ih => rw [ih, List.map_cons]
theorem dats_map {α : Type} {f : α → PyData} : ∀ {xs : List α}, Dats (xs.map fun x => .dat (f x)) (xs.map f)
  | [] => .nil
  | _ :: _ => .cons dats_map
section
variable {K : PySem.W.Frag} [Tb K] {Γ : List (Option Av)} {Ω : AH} {P : Av → AH → Prop} {te : TE} {tl : TA}
theorem e_tupD (h : AW K tl Γ Ω fun as Ω1 => ∃ ds, Dats as ds ∧ Nat.ble ds.length 100000 = true ∧ P (.dat (.tuple ds)) Ω1) : EW K (tTup tl) Γ Ω P :=
  e_tup fun F σ H Q k q => h F σ H Q k fun as vs Ω1 H1 ⟨ds, e, l, hp⟩ => q as vs Ω1 H1 ⟨ds, e.eq, Nat.le_of_ble_eq_true l, hp⟩
theorem e_lstD (h : AW K tl Γ Ω fun as Ω1 => ∃ ds, Dats as ds ∧ Nat.ble ds.length 100000 = true ∧ P (.dat (.list ds)) Ω1) : EW K (tLst tl) Γ Ω P :=
  e_lst fun F σ H Q k q => h F σ H Q k fun as vs Ω1 H1 ⟨ds, e, l, hp⟩ => q as vs Ω1 H1 ⟨ds, e.eq, Nat.le_of_ble_eq_true l, hp⟩
theorem c_allM {α : Type} {xs : List α} {p : α → Bool} (h : P (.dat (.bool (xs.all p))) Ω) : RCW K (rAll K) [.dat (.list (xs.map fun x => .bool (p x)))] Ω P := by
  have e : xs.map (fun x => PyData.bool (p x)) = (xs.map p).map PyData.bool := by
    rw [List.map_map]
    rfl
  rw [e]
  refine c_all ?_
  rw [List.all_map]
  exact h
theorem c_anyM {α : Type} {xs : List α} {p : α → Bool} (h : P (.dat (.bool (xs.any p))) Ω) : RCW K (rAny K) [.dat (.list (xs.map fun x => .bool (p x)))] Ω P := by
  have e : xs.map (fun x => PyData.bool (p x)) = (xs.map p).map PyData.bool := by
    rw [List.map_map]
    rfl
  rw [e]
  refine c_any ?_
  rw [List.any_map]
  exact h
theorem atI_nat' {α : Type} {xs : List α} {i : Nat} {a : α} (h : xs[i]? = some a) : atI xs (i : Int) = some a := atI_nat h
/-- a def of one datum, answered by a truth -/
abbrev spB (f : PyData → Bool) : ASp := fun as Ω P => ∃ d, as = [.dat d] ∧ P (.dat (.bool (f d))) Ω
end
end Dat

set_option Elab.async false
set_option linter.all false
set_option maxRecDepth 100000
set_option maxHeartbeats 1000000
namespace Dat
open PySem PySem.Spec PyProof.Rows L2
/-! ### the rules with the written part given outright -/
section
variable {X : Cx} {K : PySem.W.Frag} [Tb K]
theorem ixT (hK : X.K = K) : IxR X (rIxT K) := by subst hK; exact ix_tup
theorem ixL (hK : X.K = K) : IxR X (rIxL K) := by subst hK; exact ix_list
theorem slT (hK : X.K = K) : SlR X (rSlA K) := by subst hK; exact sl_tupA
theorem slL (hK : X.K = K) : SlR X (rSlL K) := by subst hK; exact sl_list
theorem catT (hK : X.K = K) : OpR X (binaryOp .Add) (rCatA K) := by subst hK; exact op_catA
theorem inQ (hK : X.K = K) : OpR X (compareOp .In) (rIn K false) := by subst hK; exact op_in_seq
theorem niQ (hK : X.K = K) : OpR X (compareOp .NotIn) (rIn K true) := by subst hK; exact op_notIn_seq
theorem inStrQ (hK : X.K = K) (hu : X.A.units + 64 < cLine) : OpR X (compareOp .In) (rInStr K) := by subst hK; exact op_inStr hu
theorem eqDQ (hK : X.K = K) (hu : X.A.units + 64 < cLine) : OpR X (compareOp .Eq) (rEqD K) := by subst hK; exact op_eqD hu
theorem neDQ (hK : X.K = K) (hu : X.A.units + 64 < cLine) : OpR X (compareOp .NotEq) (rNeD K) := by subst hK; exact op_neD hu
theorem isiQ (hK : X.K = K) : CallR X (.builtin "isinstance") (rIsi K) := by subst hK; exact call_isi
theorem lenQ (hK : X.K = K) : CallR X (.builtin "len") (rLenQ K) := by subst hK; exact cl_len
theorem listQ (hK : X.K = K) : CallR X (.type "list") (rListQ K) := by subst hK; exact cl_list
theorem allQ (hK : X.K = K) (hc : X.calm = true) : CallR X (.builtin "all") (rAll K) := by subst hK; exact cr_all hc
theorem anyQ (hK : X.K = K) (hc : X.calm = true) : CallR X (.builtin "any") (rAny K) := by subst hK; exact cr_any hc
theorem sumQ (hK : X.K = K) (hc : X.calm = true) : CallR X (.builtin "sum") (rSum K) := by subst hK; exact cr_sum hc
theorem maxQ (hK : X.K = K) (hc : X.calm = true) : CallR X (.builtin "max") (rMax K) := by subst hK; exact cr_max hc
theorem minQ (hK : X.K = K) (hc : X.calm = true) : CallR X (.builtin "min") (rMin K) := by subst hK; exact cr_min hc
theorem sortedQ (hK : X.K = K) : CallR X (.builtin "sorted") (rSorted K) := by subst hK; exact cr_sorted
theorem reprQ (hK : X.K = K) (hg : X.A.guards = some []) (hu : X.A.units + 100 < cLine) : CallR X (.builtin "repr") (rReprQ K) := by subst hK; exact cl_repr hg hu
theorem piT {tg l : Expr} {tl : TE} (hK : X.K = K) (hl : PE X l tl) : PI X tg l (iTup K tl) := by subst hK; exact pi_tup hl
theorem piL {tg l : Expr} {tl : TE} (hK : X.K = K) (hl : PE X l tl) : PI X tg l (iList K tl) := by subst hK; exact pi_list hl
theorem pgT {es : List Expr} {k : Nat} {t : TGs} {n : Nat} {pos : Pos} (hK : X.K = K) (hc : X.calm = true) (h : PGs X es t)
    (hn : (assignEach es X.env).length = n := by rfl) (hst : (assignEach es X.env).findIdx? (·.1) = none := by rfl) : PG X (.Tuple es k pos) (gTup K n t) := by subst hK; exact pg_tup hc h hn hst
theorem appQ {o e : Expr} {to : TE} {t : TA} {apos cpos : Pos} (hK : X.K = K) (ho : PE X o to) (ha : PA X [e] t)
    (hbase : attributeBase o "append" X.env (eval o X.env) = eval o X.env := by rfl)
    (hfew : ((backTo cpos (starEach [e] X.env)).all (fun x => !x.1) && (backToKw cpos (keywordEach [] X.env)).all (fun x => x.1.isSome)
      && decide ([e].length + ([] : List Keyword).length + (if ([] : List Keyword).isEmpty then 0 else 1) < 30)) = true := by rfl)
    (hline : (apos.endLine == cpos.line) = true := by rfl) (hs : starEach [e] X.env = (false, eval e X.env) :: starEach [] X.env := by rfl) (hplain : (backTo cpos (starEach [] X.env)).any (·.1) = false := by rfl) :
    PE X (.Call (.Attribute o "append" apos) [e] [] cpos) (tBM K "list" rAppend to t) := by
  subst hK
  exact pe_bm PySem.F.plainAttrs_list PySem.F.slot_list_append PySem.F.type_list_append mt_append ho ha hbase hfew hline hs hplain
theorem zipQ {e e2 : Expr} {ta : TA} {p pos tpos : Pos} {elts : List Expr} {kk : Nat} (hK : X.K = K) (hg : Gl X "zip") (hm : X.mg "zip" = none) (ha : PA X [e, e2] ta)
    (hs : starEach [e, e2] X.env = (false, eval e X.env) :: starEach [e2] X.env := by rfl) (hpl : (backTo pos (starEach [e2] X.env)).any (·.1) = false := by rfl) :
    PI X (.Tuple elts kk tpos) (.Call (.Name "zip" p) [e, e2] [] pos) (RZ.iZipA K ta) := by
  subst hK
  exact RZ.pi_zipA hg hm ha hs hpl
theorem enumQ {e : Expr} {ta : TA} {p pos tpos : Pos} {elts : List Expr} {kk : Nat} (hK : X.K = K) (hg : Gl X "enumerate") (hm : X.mg "enumerate" = none) (ha : PA X [e] ta) (hs : starEach [e] X.env = [(false, eval e X.env)] := by rfl) :
    PI X (.Tuple elts kk tpos) (.Call (.Name "enumerate" p) [e] [] pos) (iEnum K ta) := by
  subst hK
  exact pi_enum hg hm ha hs
end
/-! ### truths, one after another -/
abbrev IsB (b : Bool) (Ω : AH) : Av → AH → Prop := fun a Ω' => a = .dat (.bool b) ∧ Ω' = Ω
abbrev IsT (b : Bool) (Ω : AH) : Bool → AH → Prop := fun a Ω' => a = b ∧ Ω' = Ω
section
variable {K : PySem.W.Frag} [Tb K] {Γ : List (Option Av)} {Ω : AH} {P : Av → AH → Prop} {ta tb : TE} {tt tu : TT} {b1 b2 b : Bool}
theorem e_andB (h1 : EW K ta Γ Ω (IsB b1 Ω)) (h2 : b1 = true → EW K tb Γ Ω (IsB b2 Ω)) : EW K (tAndV ta tb) Γ Ω (IsB (b1 && b2) Ω) :=
  e_andV (h1.mono fun a Ω' ⟨e, eo⟩ => ⟨b1, e, fun z => by subst eo; rw [z, Bool.true_and]; exact h2 z, fun z => by rw [z, Bool.false_and]; exact ⟨rfl, eo⟩⟩)
theorem e_orB (h1 : EW K ta Γ Ω (IsB b1 Ω)) (h2 : b1 = false → EW K tb Γ Ω (IsB b2 Ω)) : EW K (tOrV ta tb) Γ Ω (IsB (b1 || b2) Ω) :=
  e_orV (h1.mono fun a Ω' ⟨e, eo⟩ => ⟨b1, e, fun z => by rw [z, Bool.true_or]; exact ⟨rfl, eo⟩, fun z => by subst eo; rw [z, Bool.false_or]; exact h2 z⟩)
theorem e_notB (h1 : EW K ta Γ Ω (IsB b1 Ω)) : EW K (tNotV ta) Γ Ω (IsB (!b1) Ω) := e_notV (h1.mono fun a Ω' ⟨e, eo⟩ => ⟨b1, e, rfl, eo⟩)
theorem TW.mono {P P' : Bool → AH → Prop} (h : TW K tt Γ Ω P) (f : ∀ b Ω', P b Ω' → P' b Ω') : TW K tt Γ Ω P' := fun F σ H Q k q => h F σ H Q k fun b Ω' H' p => q b Ω' H' (f b Ω' p)
theorem t_andB (h1 : TW K tt Γ Ω (IsT b1 Ω)) (h2 : b1 = true → TW K tu Γ Ω (IsT b2 Ω)) : TW K (tAnd tt tu) Γ Ω (IsT (b1 && b2) Ω) :=
  t_and (h1.mono fun a Ω' ⟨e, eo⟩ => ⟨fun z => by subst eo; rw [← e, z, Bool.true_and]; exact h2 (e.symm.trans z), fun z => ⟨by rw [← e, z, Bool.false_and], eo⟩⟩)
theorem t_orB (h1 : TW K tt Γ Ω (IsT b1 Ω)) (h2 : b1 = false → TW K tu Γ Ω (IsT b2 Ω)) : TW K (tOr tt tu) Γ Ω (IsT (b1 || b2) Ω) :=
  t_or (h1.mono fun a Ω' ⟨e, eo⟩ => ⟨fun z => ⟨by rw [← e, z, Bool.true_or], eo⟩, fun z => by subst eo; rw [← e, z, Bool.false_or]; exact h2 (e.symm.trans z)⟩)
theorem t_notB (h1 : TW K tt Γ Ω (IsT b1 Ω)) : TW K (tNot tt) Γ Ω (IsT (!b1) Ω) := t_not (h1.mono fun a Ω' ⟨e, eo⟩ => ⟨by rw [e], eo⟩)
theorem t_ofB (h : EW K ta Γ Ω (IsB b Ω)) : TW K (tB ta) Γ Ω (IsT b Ω) := t_B (h.mono fun a Ω' ⟨e, eo⟩ => ⟨b, e, rfl, eo⟩)
theorem t_ofC (h : EW K ta Γ Ω (IsB b Ω)) : TW K (tTest ta) Γ Ω (IsT b Ω) := t_test (h.mono fun a Ω' ⟨e, eo⟩ => ⟨b, e, rfl, eo⟩)
theorem s_retB {E : EndA} (h : EW K ta Γ Ω (IsB b Ω)) (q : E.rt (.dat (.bool b)) Ω) : SW K (tRet ta) Γ Ω E := s_ret (h.mono fun a Ω' ⟨e, eo⟩ => by rw [e, eo]; exact q)
theorem s_ifB {E : EndA} {t u : TS} (h : TW K tt Γ Ω (IsT b Ω)) (h1 : b = true → SW K t Γ Ω E) (h2 : b = false → SW K u Γ Ω E) : SW K (tIfS tt t u) Γ Ω E :=
  s_if (h.mono fun a Ω' ⟨e, eo⟩ => by subst e eo; exact ⟨h1, h2⟩)
end
end Dat

set_option Elab.async false
set_option linter.all false
set_option maxRecDepth 100000
set_option maxHeartbeats 3200000
/-! set of a list of ints, sorted(set(list)) -/
namespace SetL
open PySem PySem.Spec PyProof.Rows L2
/-- what a set holds that was just made -/
abbrev mtS (w : World) : Obj := { cls := .type "set", dict := none, data := .set #[] 0 (.fresh 0 0 (!w.params.followText "set-order")) }
section
variable {P : Program} {w : World} {A : Around} {E : Value → Shared → Prop} {s : Shared}
theorem set_of_list {l : Addr} {vs : Array Value} (ks : List Int) {Q : Value → Shared → Prop} (nh : A.handled = none) (pl : s.heap.IsList l vs) (ia : IntsAre vs.toList ks) (bd : ks.length + 1 < scanBound)
    (fin : ∀ (hp2 : Heap) (tk2 c : Nat), SetR w hp2 s.heap.objs.size (fun j => decide (j ∈ ks)) c → c ≤ ks.length → (∀ b o, s.heap.get? b = some o → hp2.get? b = some o) → Q (.ref s.heap.objs.size) { s with heap := hp2, toks := tk2 }) :
    wpAny (model P w) A (call (.type "set") [.ref l]) Q E s := by
  have sz : vs.size = ks.length := by have := IntsAre.length ia; rwa [Array.length_toList] at this
  obtain ⟨mc, mtl, mro⟩ := F.called_set.mro; have mde := F.called_set.made; have sbc := F.called_set.sub
  refine wpAny_call (codeAny_of_tree ?_); show wpAny _ _ (callAny (.type "set") _) _ _ _
  refine wpAny_pure ⟨Code.quiet_builtin _ (by decide +kernel), codeAny_builtin F.entry_type_call ?_⟩; rw [Around.under_plain (weight_type_call_type "set" [.ref l] []) rfl]
  have nt := F.called_set.notType; have cc := F.called_set.canCreate; have tc := F.typeCall_set_1 (.ref l)
  repeat (any_goals (first | assumption | wp_step))
  refine codeAny_mono (code_set_led1 (.ref l) (E := E) (Q₁ := fun x sx => x = .ref s.heap.objs.size ∧ sx = { s with heap := s.heap.push (mtS w) }) ⟨rfl, rfl⟩) fun r1 sr hr1 => ?_
  cases r1 with
  | error z => exact hr1
  | ok fl1 =>
    cases fl1 with
    | ret x =>
      obtain ⟨rfl, rfl⟩ := hr1
      have gS : (s.heap.push (mtS w)).get? s.heap.objs.size = some (mtS w) := Heap.get?_push_size _ rfl
      have tyS : Shared.TypeIs { s with heap := s.heap.push (mtS w) } (.ref s.heap.objs.size) "set" := ⟨_, gS, rfl⟩
      have il := F.called_set.init.lookup; have ib := F.called_set.init.bind (.ref s.heap.objs.size)
      repeat (any_goals (first | assumption | wp_step))
      refine codeAny_mono (codeAny_call_builtin (R := wants (fun x sx => x = .none ∧ ∃ hp2 tk2 c, sx = { s with heap := hp2, toks := tk2 } ∧ SetR w hp2 s.heap.objs.size (fun j => decide (j ∈ ks)) c ∧ c ≤ ks.length ∧
          (∀ b o, s.heap.get? b = some o → hp2.get? b = some o)) E) F.called_set.init.plain F.entry_set_init (check_set_init_1 tyS ?_)) fun r2 sr2 hr2 => ?_
      · obtain ⟨⟨c0, d0, dt0, sl0⟩, ho, hc0, n0, hd0⟩ := pl
        simp only at hc0 hd0; subst hc0; subst hd0
        have ho2 : (s.heap.push (mtS w)).get? l = some { cls := .type "list", dict := d0, data := .seq vs n0, slots := sl0 } := Heap.get?_push_of_some _ ho
        have f1 := F.sub_list_set; have f2 := F.sub_list_frozenset; have f3 : (Value.type "list" == Value.type "dict") = false := by decide
        have pl2 : (s.heap.push (mtS w)).IsList l vs := ⟨_, ho2, rfl, n0, rfl⟩
        unfold Builtin.«set.__init__» noKeywords Builtin.Frozenset.updateFrom; generalize hIt : pyIter = It
        wp_walk
        subst hIt
        refine wpAny_pyIter_list pl2 (wpAny_bind (wpAny_runValue ?_))
        have lS : l < s.heap.objs.size := Heap.lt_size ho
        have nh3 : A.in1.in1.in1.handled = none := by simp [nh]
        have psz : (s.heap.push (mtS w)).objs.size = s.heap.objs.size + 1 := Heap.size_push ..
        have ne1 : l ≠ (s.heap.push (mtS w)).objs.size := by rw [psz]; exact Nat.ne_of_lt (Nat.lt_succ_of_lt lS)
        have ne2 : s.heap.objs.size ∉ [(s.heap.push (mtS w)).objs.size, l] := by rw [psz]; simp only [List.mem_cons, List.not_mem_nil, or_false, not_or]; exact ⟨Nat.ne_of_lt (Nat.lt_succ_self _), Nat.ne_of_gt lS⟩
        have val : ∀ (i : Nat) (v : Value), vs[i]? = some v → ∃ k t, ks[i]? = some k ∧ v = .int k t := fun i v hv => by
          have hi : i < ks.length := by rw [← sz]; exact (Array.getElem?_eq_some_iff.mp hv).1
          obtain ⟨t, e⟩ := PyProof.Rows.IntsAre.int_at ia i v (by rwa [Array.getElem?_toList])
          exact ⟨ks[i], t, List.getElem?_eq_getElem hi, by rw [e, List.getD_eq_getElem?_getD, List.getElem?_eq_getElem hi]; rfl⟩
        refine set_update_ints ((Walks.list nh3 _ l ne1 vs).toS) s.heap.objs.size ne2 ks sz bd val (vs.size - 0) 0 _ (by omega) (Nat.zero_le _) ⟨⟨_, Heap.get?_push_size _ rfl, rfl, rfl⟩, (pl2.push _)⟩
          ⟨0, Nat.le_refl 0, setR_new_at (Heap.get?_push_of_some _ gS)⟩ fun s3 c3 mv lc hS3 => ?_
        obtain ⟨hp2, g3, d3, tk3, os3⟩ := s3
        have e1 : g3 = s.gens := mv.gens; have e2 : d3 = s.drawn := mv.drawn; have e3 : os3 = s.os := mv.os
        subst e1; subst e2; subst e3
        show wpAny _ _ _ _ _ _; refine wpAny_pure ?_; show wpAny _ _ (ret Value.none) _ _ _
        refine wpAny_pure ⟨rfl, hp2, tk3, c3, rfl, hS3, by rw [sz] at lc; exact lc, fun b o e => ?_⟩
        have hb0 : b < s.heap.objs.size := Heap.lt_size e
        exact mv.heap b o (by rw [psz]; simp only [List.mem_cons, List.not_mem_nil, or_false, not_or]; exact ⟨Nat.ne_of_lt hb0, Nat.ne_of_lt (Nat.lt_succ_of_lt hb0)⟩) (Heap.get?_push_of_some _ (Heap.get?_push_of_some _ e))
      · cases r2 with
        | error z => exact hr2
        | ok fl2 =>
          cases fl2 with
          | ret x =>
            obtain ⟨rfl, hp2, tk2, c, rfl, g1, g2, g3⟩ := hr2
            repeat (any_goals (first | assumption | wp_step))
            exact fin _ _ _ g1 g2 g3
          | _ => exact hr2.elim
    | _ => exact hr1.elim
end
/-- set(list of ints) -/
def rSetL (w : World) : List V → Hp → VK → Prop := fun xs H Q => ∃ (p : Addr) (ks : List Int), xs = [.ref p] ∧ H p = some (.lst (ks.map V.int)) ∧ ks.length ≤ 1000 ∧
  ∀ (a : Addr) (c : Nat), H a = none → c ≤ ks.length → Q (.ref a) (upd H a (SetO w a (fun j => decide (j ∈ ks)) c))
theorem cr_setL {X : Cx} (hc : X.calm = true) : CallR X (.type "set") (rSetL X.w) := by
  intro pins s σ H xs us Q I r h
  obtain ⟨p, ks, rfl, hp, hl, q⟩ := h
  rw [Vals.ref1 r]
  obtain ⟨its, rv, pl, _⟩ := I.list (SqL.of (K := X.K) hp)
  refine set_of_list ks (I.ok.hd hc) pl.isList (by simpa using RZ.intsAre_vals rv) (by unfold scanBound; omega) fun h' tk c R lc k => ?_
  have nf : H s.heap.objs.size = none := I.hok.fresh (Nat.le_refl _)
  refine ⟨.ref s.heap.objs.size, _, ?_, rfl, q _ c nf lc⟩
  exact I.laid (t' := tk) k (Nat.le_refl _) (setO_new R)
end SetL
namespace Dat
open PySem PySem.Spec PyProof.Rows L2
theorem setLQ {X : Cx} {w : World} (hw : X.w = w) (hc : X.calm = true) : CallR X (.type "set") (SetL.rSetL w) := by subst hw; exact SetL.cr_setL hc
theorem sortSetQ {X : Cx} {w : World} (hw : X.w = w) (hc : X.calm = true) : CallR X (.builtin "sorted") (rSortedSet w) := by subst hw; exact cr_sortedSet hc
section
variable {K : PySem.W.Frag} [Tb K] {Γ : List (Option Av)} {Ω : AH} {P : Av → AH → Prop} {tl : TA} {w : World}
theorem e_sortSet (h : AW K tl Γ Ω fun as Ω1 => ∃ ks : List Int, Dats as [.list (ks.map PyData.int)] ∧ ks.length ≤ 40 ∧ ∀ ns : List Int, ns.Pairwise (· < ·) → (∀ k, k ∈ ns ↔ k ∈ ks) → P (.dat (.list (ns.map PyData.int))) Ω1) :
    EW K (tCB (rSortedSet w) (tCons (tCB (SetL.rSetL w) tl) tNil)) Γ Ω P := fun F σ H Q k q =>
  h F σ H _ k fun as vs Ω1 H1 ⟨ks, ea, hl, hp⟩ k1 v1 => by
    rw [ea.eq] at v1
    cases v1 with | cons va v1 => cases v1; cases va with | dat va =>
      obtain ⟨a, rfl, ha⟩ := dq_intsL va
      refine ⟨a, ks, rfl, Fz_le _ _ ha, by omega, fun b c nb lc => ⟨b, _, c, rfl, upd_same, by omega, fun ns p hs hm _ np => ?_⟩⟩
      have k2 := k1.same (same_new (o := SetO w b (fun j => decide (j ∈ ks)) c) nb)
      exact q _ _ _ _ (hp ns hs fun k => by rw [hm k]; simp) (k2.same (same_new np)) (.dat (lst_new k2 np .ofInts))
end
end Dat

set_option Elab.async false
set_option linter.all false
set_option maxRecDepth 100000
set_option maxHeartbeats 1000000
namespace Dat
open PySem PySem.Spec PyProof.Rows L2
section
variable {K : PySem.W.Frag} [Tb K] {Γ : List (Option Av)} {Ω : AH} {g g1 : TG} {te : TE}
/-- a comprehension of two walks that changes nothing -/
theorem e_lc2P {α β : Type} {wi wi1 : TI} {vs vs1 : List Nat} {P : Av → AH → Prop} (xs : List α) (enc : α → Av) (ys : α → List β) (enc1 : β → Av) (out : α → β → PyData) (hg : GN g vs) (hg1 : GN g1 vs1) (hz : xs.length ≤ 200) (hz1 : ∀ x ∈ xs, (ys x).length ≤ 200)
    (h : IW K wi Γ Ω fun as Ω1 => as = xs.map enc ∧ (∀ x Ω', x ∈ xs → (∀ q bs, Ω1 q = some bs → Ω' q = some bs) → GW K g (enc x) (wipeA Γ vs) Ω' fun Γ2 Ω2 => Ω2 = Ω' ∧ IW K wi1 Γ2 Ω2 fun bs Ω3 => Ω3 = Ω' ∧ bs = (ys x).map enc1 ∧
        ∀ y Ω4, y ∈ ys x → (∀ q bs, Ω1 q = some bs → Ω4 q = some bs) → GW K g1 (enc1 y) (wipeA Γ2 vs1) Ω4 fun Γ5 Ω5 => Ω5 = Ω4 ∧ EW K te Γ5 Ω5 fun z Ω6 => Ω6 = Ω4 ∧ z = .dat (out x y)) ∧
      ∀ D, Ω1 D = none → P (.ptr D) (put Ω1 D ((xs.flatMap fun x => (ys x).map (out x)).map .dat))) : EW K (tLc2 wi g tYes wi1 g1 tYes te vs vs1) Γ Ω P := by
  refine fun F σ H Q k q => h F σ H _ k fun as Ω1 H1 J ⟨ea, hb, hp⟩ k1 wk D nD => ?_
  have fD := k1.free nD
  have ext : ∀ acc q bs, Ω1 q = some bs → put Ω1 D acc q = some bs := fun acc q bs hq => by
    rw [put_ne (ne_of_Ω hq fD)]
    exact hq
  refine ⟨fun i m H' => m = as.length - i ∧ i ≤ as.length ∧ ((xs.take i).flatMap fun x => (ys x).map (out x)).length ≤ 200 * i ∧ Ok K (Fz Ω1 H1) (put Ω1 D (((xs.take i).flatMap fun x => (ys x).map (out x)).map .dat)) Γ σ H', ⟨_, rfl, Nat.zero_le _, Nat.zero_le _, k1.re.new nD .nil⟩, ?_⟩
  rintro i m H' ⟨rfl, hi, hl, k'⟩
  by_cases hlt : i < as.length
  · have hlt' : i < xs.length := by rw [ea, List.length_map] at hlt; exact hlt
    have ex : xs[i]? = some xs[i] := List.getElem?_eq_getElem hlt'
    generalize hx : xs[i] = x at ex
    have mx : x ∈ xs := List.mem_of_getElem? ex
    have eas : as[i]? = some (enc x) := by rw [ea, List.getElem?_map, ex]; rfl
    obtain ⟨hgo, hy⟩ := wk.go _ H' k'.bare i _ eas
    have tk : (xs.take (i + 1)).flatMap (fun x => (ys x).map (out x)) = (xs.take i).flatMap (fun x => (ys x).map (out x)) ++ (ys x).map (out x) := by
      rw [List.take_add_one, ex, List.flatMap_append]
      simp
    refine .inr ⟨hgo, fun H2 => ((xs.take (i + 1)).flatMap fun x => (ys x).map (out x)).length ≤ 200 * (i + 1) ∧ Ok K (Fz Ω1 H1) (put Ω1 D (((xs.take (i + 1)).flatMap fun x => (ys x).map (out x)).map .dat)) Γ σ H2, fun H2 k2 => ⟨_, by omega, rfl, by omega, k2⟩, fun x' H2 hyx => ?_⟩
    obtain ⟨s2, v2⟩ := hy x' H2 hyx
    have k2 := k'.same s2
    refine hg x' (L2.wipe σ vs) H2 _ _ (fun σ3 H3 l3 a3 q3 => ⟨wipe_agree l3 a3, q3⟩) ?_
    refine hb x _ mx (ext _) _ (L2.wipe σ vs) H2 x' _ (k2.re.wipe vs) v2 fun Γ3 σ3 Ω3 H3 ⟨e3, h3⟩ k3 => ?_
    subst e3
    refine h3 _ σ3 H3 _ k3.re fun bs Ω4 H4 J1 ⟨e4, eb, hin⟩ k4 wk1 => ?_
    subst e4
    generalize hA : (xs.take i).flatMap (fun x => (ys x).map (out x)) = A at *
    refine ⟨fun j kk H5 => kk = bs.length - j ∧ j ≤ bs.length ∧ Ok K (Fz (put Ω1 D (A.map .dat)) H4) (put Ω1 D ((A ++ ((ys x).take j).map (out x)).map .dat)) Γ3 σ3 H5, ⟨_, rfl, Nat.zero_le _, ?_⟩, ?_⟩
    · rw [List.take_zero, List.map_nil, List.append_nil]
      exact k4.re
    rintro j kk H5 ⟨rfl, hj, k5⟩
    have hly := hz1 x mx
    by_cases hlj : j < bs.length
    · have hlj' : j < (ys x).length := by rw [eb, List.length_map] at hlj; exact hlj
      have ey : (ys x)[j]? = some (ys x)[j] := List.getElem?_eq_getElem hlj'
      generalize hyy : (ys x)[j] = y at ey
      have my : y ∈ ys x := List.mem_of_getElem? ey
      have ebs : bs[j]? = some (enc1 y) := by rw [eb, List.getElem?_map, ey]; rfl
      obtain ⟨hgo1, hy1⟩ := wk1.go _ H5 k5.bare j _ ebs
      have tj : ((ys x).take (j + 1)).map (out x) = ((ys x).take j).map (out x) ++ [out x y] := by
        rw [List.take_add_one, ey, List.map_append]
        rfl
      refine .inr ⟨hgo1, fun H6 => Ok K (Fz (put Ω1 D (A.map .dat)) H4) (put Ω1 D ((A ++ ((ys x).take (j + 1)).map (out x)).map .dat)) Γ3 σ3 H6, fun H6 k6 => ⟨_, by omega, rfl, by omega, k6⟩, fun y' H6 hyz => ?_⟩
      obtain ⟨s6, v6⟩ := hy1 y' H6 hyz
      have k6 := k5.same s6
      refine hg1 y' (L2.wipe σ3 vs1) H6 _ _ (fun σ7 H7 l7 a7 q7 => ⟨wipe_agree l7 a7, q7⟩) ?_
      refine hin y _ my (ext _) _ (L2.wipe σ3 vs1) H6 y' _ (k6.re.wipe vs1) v6 fun Γ7 σ7 Ω7 H7 ⟨e7, h7⟩ k7 => ?_
      subst e7
      refine h7 _ σ7 H7 _ k7.re fun z v Ω8 H8 ⟨e8, ez⟩ k8 v8 => ?_
      subst e8 ez
      have k8' : Ok K (Fz (put Ω1 D (A.map .dat)) H4) _ Γ3 σ3 H8 := k6.back ((k8.anchor k7.fr).bare)
      obtain ⟨zs, hz8, g8⟩ := k8.st D _ put_same
      have l8 := g8.length
      rw [List.length_map, List.length_append, List.length_map, List.length_take] at l8
      refine ⟨zs, hz8, sz_lt (by omega), ?_⟩
      have := k8'.put put_same (g8.app (.cons v8 .nil))
      rw [put_put] at this
      rw [tj, ← List.append_assoc, List.map_append]
      exact this
    · have ej : j = (ys x).length := by rw [eb, List.length_map] at hj hlj; omega
      have ej2 : j = bs.length := by rw [eb, List.length_map]; exact ej
      refine .inl ⟨by rw [ej2]; exact wk1.stop _ H5 k5.bare, ?_, ?_⟩
      · rw [tk, List.length_append, List.length_map]
        omega
      · rw [tk]
        subst ej
        rw [List.take_length] at k5
        exact k2.back ((k5.anchor (k3.fr.trans k4.fr)).bare)
  · have ei : i = xs.length := by rw [ea, List.length_map] at hi hlt; omega
    subst ei
    refine .inl ⟨by have := wk.stop _ H' k'.bare; rw [ea, List.length_map] at this; exact this, q _ _ _ _ (hp D fD) ?_ (.ptr D)⟩
    rw [List.take_length] at k'
    exact k'.anchor k1.fr
theorem e_lc2M {α β : Type} {wi wi1 : TI} {vs vs1 : List Nat} {P : Av → AH → Prop} (xs : List α) (enc : α → Av) (ys : α → List β) (enc1 : β → Av) (out : α → β → PyData) (hg : GN g vs) (hg1 : GN g1 vs1) (hz : xs.length ≤ 200) (hz1 : ∀ x ∈ xs, (ys x).length ≤ 200)
    (h : IW K wi Γ Ω fun as Ω1 => as = xs.map enc ∧ (∀ x Ω', x ∈ xs → (∀ q bs, Ω1 q = some bs → Ω' q = some bs) → GW K g (enc x) (wipeA Γ vs) Ω' fun Γ2 Ω2 => Ω2 = Ω' ∧ IW K wi1 Γ2 Ω2 fun bs Ω3 => Ω3 = Ω' ∧ bs = (ys x).map enc1 ∧
        ∀ y Ω4, y ∈ ys x → (∀ q bs, Ω1 q = some bs → Ω4 q = some bs) → GW K g1 (enc1 y) (wipeA Γ2 vs1) Ω4 fun Γ5 Ω5 => Ω5 = Ω4 ∧ EW K te Γ5 Ω5 fun z Ω6 => Ω6 = Ω4 ∧ z = .dat (out x y)) ∧
      P (.dat (.list (xs.flatMap fun x => (ys x).map (out x)))) Ω1) : EW K (tLc2 wi g tYes wi1 g1 tYes te vs vs1) Γ Ω P := by
  refine EW.frz (e_lc2P xs enc ys enc1 out hg hg1 hz hz1 fun F σ H R k q => h F σ H R k fun as Ω1 H1 J ⟨ea, hb, hp⟩ k1 wk => q as Ω1 H1 J ⟨ea, hb, fun D nD => ⟨D, _, rfl, put_same, ?_⟩⟩ k1 wk)
  rw [del_put nD]
  exact hp
/-! comparisons with a list that may change -/
variable {p : Addr} {ds : List PyData} {e : PyData} {P : Av → AH → Prop}
theorem Ok.listAt {F H : Hp} (k : Ok K F Ω [] [] H) (o : Ω p = some (ds.map .dat)) : Dq K H (.ref p) (.list ds) := by
  obtain ⟨xs, h1, h2⟩ := k.st p _ o
  exact .lst h1 (h2.dats.same Fz_le)
theorem r_eqP (o : Ω p = some (ds.map .dat)) (s1 : SeqAt.shaped (.list ds) = true) (s2 : SeqAt.shaped e = true) (h : P (.dat (.bool (PyData.eqv (.list ds) e))) Ω) : R2W K (rEqD K) (.ptr p) (.dat e) Ω P := fun F H x y Q k hx hy q => by
  cases hx
  cases hy with | dat hy =>
    exact ⟨_, e, (k.listAt o).dp (shaped_lay s1), (hy.same Fz_le).dp (shaped_lay s2), s1, s2, q _ _ _ _ h k (.dat (.bl _))⟩
theorem r_neP (o : Ω p = some (ds.map .dat)) (s1 : SeqAt.shaped (.list ds) = true) (s2 : SeqAt.shaped e = true) (h : P (.dat (.bool (!PyData.eqv (.list ds) e))) Ω) : R2W K (rNeD K) (.ptr p) (.dat e) Ω P := fun F H x y Q k hx hy q => by
  cases hx
  cases hy with | dat hy =>
    exact ⟨_, e, (k.listAt o).dp (shaped_lay s1), (hy.same Fz_le).dp (shaped_lay s2), s1, s2, q _ _ _ _ h k (.dat (.bl _))⟩
end
end Dat

set_option Elab.async false
set_option linter.all false
set_option maxRecDepth 100000
set_option maxHeartbeats 1000000
namespace Dat
open PySem PySem.Spec PyProof.Rows L2
/-! ### a list beside the empty one -/
def rEqNil (K : PySem.W.Frag) : R2 := fun x y H Q => ∃ a b xs, x = .ref a ∧ y = .ref b ∧ SqL K H a xs ∧ SqL K H b [] ∧ Q (.bl xs.isEmpty) H
theorem op_eqNil {X : Cx} (hu : X.A.units + 64 < cLine) : OpR X (compareOp .Eq) (rEqNil X.K) := by
  intro pins s σ H x y v u Q I rx ry h
  obtain ⟨a, b, xs, rfl, rfl, h1, h2, q⟩ := h
  cases rx
  cases ry
  obtain ⟨its, r1, p1, _⟩ := I.list h1
  obtain ⟨jts, r2, p2, _⟩ := I.list h2
  cases r2
  cases r1 with
  | nil => exact SeqAt.eq_listAt (e := fun _ => true) p1.isList p2.isList rfl (by omega) (fun j h1 _ => by simp at h1) ⟨.bl _, H, I, rfl, q⟩
  | cons _ _ => exact SeqAt.eq_list_lengthsAt p1.isList p2.isList (by simp) (by omega) ⟨.bl _, H, I, rfl, q⟩
theorem eqNilQ {X : Cx} {K : PySem.W.Frag} [Tb K] (hK : X.K = K) (hu : X.A.units + 64 < cLine) : OpR X (compareOp .Eq) (rEqNil K) := by subst hK; exact op_eqNil hu
section
variable {K : PySem.W.Frag} [Tb K] {F : Hp} {Γ : List (Option Av)} {Ω : AH} {P : Av → AH → Prop} {ta tb te : TE} {g : TG} {gs : TGs} {a : Av} {as : List Av} {ds : List PyData}
theorem r_eqNil (h : P (.dat (.bool ds.isEmpty)) Ω) : R2W K (rEqNil K) (.dat (.list ds)) (.dat (.list [])) Ω P := fun F H x y Q k hx hy q => by
  cases hx with | dat hx => cases hy with | dat hy => cases hx with | lst h1 g1 => cases hy with | lst h2 g2 =>
    cases g2
    refine ⟨_, _, _, rfl, rfl, SqL.of (Fz_le _ _ h1), SqL.of (Fz_le _ _ h2), ?_⟩
    have e : ∀ {vs : List V}, DqAll K (Fz Ω H) vs ds → vs.isEmpty = ds.isEmpty := fun g => by cases g <;> rfl
    rw [e g1]
    exact q _ _ _ _ h k (.dat (.bl _))
/-- {} -/
theorem e_dnew (h : P (.dat (.dict [])) Ω) : EW K tDNewK Γ Ω P := fun F σ H Q k q p np =>
  q _ _ _ _ h (k.same (same_new np)) (.dat (.dct (Fz_at (k.off np))))
/-- a list's place as a target -/
theorem g_sub {P : List (Option Av) → AH → Prop} (h : EW K ta Γ Ω fun o Ω2 => ∃ p, o = .ptr p ∧ EW K tb Γ Ω2 fun c Ω3 => ∃ (z : Int) (as : List Av) (j : Nat), c = .dat (.int z) ∧ Ω3 p = some as ∧ ixN as.length z = some j ∧ P Γ (put Ω3 p (as.set j a))) : GW K (gSub ta tb rSetL) a Γ Ω P := fun F σ H v Q k1 v1 q => by
  refine h (Fz Ω H) σ H _ k1.re fun o x Ω2 H2 ⟨p, eo, h2⟩ k2 v2 => ?_
  subst eo
  cases v2
  refine h2 (Fz Ω2 H2) σ H2 _ k2.re fun c y Ω3 H3 ⟨z, as, jj, ec, ep, ej, hn⟩ k3 v3 => ?_
  subst ec
  cases v3 with | dat v3 =>
    cases v3
    obtain ⟨xs, hx, g⟩ := k3.st p as ep
    refine ⟨p, xs, z, jj, rfl, rfl, hx, ?_, q _ _ _ _ hn ((k3.anchor (k1.fr.trans k2.fr)).put ep (g.set jj ((v1.same k2.fr).same k3.fr)))⟩
    rw [g.length]
    exact ej
theorem gs_consO {P : List (Option Av) → AH → Prop} (h : GW K g a Γ Ω fun Γ1 Ω1 => GsW K gs as Γ1 Ω1 P) : GsW K (gCons g gs) (a :: as) Γ Ω P := fun F σ H vs Q k hv q => by
  cases hv with | cons hv hr =>
    exact ⟨_, _, rfl, h (Fz Ω H) σ H _ _ k.re hv fun Γ1 σ1 Ω1 H1 h1 k1 => h1 F σ1 H1 _ Q (k1.anchor k.fr) (hr.same k1.fr) q⟩
/-- (x,) * n, n at least 2 -/
theorem dqAll_flat' {H : Hp} {xs : List V} (g : DqAll K H xs ds) : ∀ n : Nat, DqAll K H (List.replicate n xs).flatten (List.replicate n ds).flatten
  | 0 => .nil
  | n + 1 => by
    rw [List.replicate_succ, List.replicate_succ, List.flatten_cons, List.flatten_cons]
    exact g.app (dqAll_flat' g n)
theorem r_repT {k : Int} (ne : ds ≠ []) (h1 : 2 ≤ k) (h2 : k ≤ 1000) (hl : ds.length ≤ 1000) (h : P (.dat (.tuple (List.replicate k.toNat ds).flatten)) Ω) : R2W K (rRepT K) (.dat (.tuple ds)) (.dat (.int k)) Ω P := fun F H x y Q kk hx hy q => by
  cases hx with | dat hx => cases hy with | dat hy =>
    cases hy
    cases hx with | tup hs g =>
      have l := g.length
      refine ⟨_, k, _, rfl, rfl, sqT_same Fz_le hs, fun e => ?_, h1, h2, by omega, fun p np => q _ _ _ _ h (kk.same (same_new np)) (.dat (tup_new kk np (dqAll_flat' g _)))⟩
      subst e
      cases g
      exact ne rfl
theorem repTQ {X : Cx} (hK : X.K = K) : OpR X (binaryOp .Mult) (rRepT K) := by subst hK; exact op_repT
end
theorem dats_pack {as : List Av} {ds : List PyData} {Q : List PyData → Prop} (h1 : Dats as ds) (h2 : Nat.ble ds.length 100000 = true) (h3 : Q ds) : ∃ ds, Dats as ds ∧ Nat.ble ds.length 100000 = true ∧ Q ds := ⟨ds, h1, h2, h3⟩
theorem cutD_mem {α : Type} {xs : List α} {lo hi : Option Int} {x : α} (h : x ∈ cutD xs lo hi) : x ∈ xs := List.mem_of_mem_drop (List.mem_of_mem_take h)
theorem cutD_len {α : Type} {xs : List α} {lo hi : Option Int} : (cutD xs lo hi).length ≤ xs.length := by
  unfold cutD
  rw [List.length_take, List.length_drop]
  omega
end Dat

set_option Elab.async false
set_option linter.all false
set_option maxRecDepth 100000
set_option maxHeartbeats 1000000
namespace Dat
open PySem PySem.Spec PyProof.Rows L2
section
variable {K : PySem.W.Frag} [Tb K] {Γ : List (Option Av)} {Ω : AH} {P : Av → AH → Prop} {ds es : List PyData} {p p2 : Addr} {tl tk : TA} {sp : ASp} {X : XK}
/-- two lists that stay, the sum one that may change -/
theorem r_catLLP (hl : ds.length + es.length ≤ 100000) (h : ∀ q, Ω q = none → P (.ptr q) (put Ω q ((ds ++ es).map .dat))) : R2W K rCat (.dat (.list ds)) (.dat (.list es)) Ω P := fun F H x y Q k hx hy q => by
  cases hx with | dat hx => cases hy with | dat hy => cases hx with | lst h1 g1 => cases hy with | lst h2 g2 =>
    have l1 := g1.length
    have l2 := g2.length
    exact ⟨_, _, _, _, rfl, rfl, Fz_le _ _ h1, Fz_le _ _ h2, sz_of (by omega), fun z nz => q _ _ _ _ (h z (k.free nz)) (k.new nz (.ofDats (g1.app g2))) (.ptr z)⟩
/-- two lists that may change, the sum one that stays -/
theorem r_catPPd (o1 : Ω p = some (ds.map .dat)) (o2 : Ω p2 = some (es.map .dat)) (hl : ds.length + es.length ≤ 100000) (h : P (.dat (.list (ds ++ es))) Ω) : R2W K rCat (.ptr p) (.ptr p2) Ω P := fun F H x y Q k hx hy q => by
  cases hx
  cases hy
  obtain ⟨xs, h1, g1⟩ := k.st p _ o1
  obtain ⟨ys, h2, g2⟩ := k.st p2 _ o2
  have l1 := g1.dats.length
  have l2 := g2.dats.length
  exact ⟨_, _, _, _, rfl, rfl, h1, h2, sz_of (by omega), fun z nz => q _ _ _ _ h (k.same (same_new nz)) (.dat (lst_new k nz (g1.dats.app g2.dats)))⟩
/-- a call with keywords alone -/
theorem e_callK {π : List Nat} {m : Nat} (h : AW K tk Γ Ω fun bs Ω2 => bs.length = m ∧ sp (kwA π bs) Ω2 P) : EW K (tCallN 0 m (spA K sp) (fun _ zs => kwV π zs) X tNil tk) Γ Ω P :=
  e_callN (n := 0) (m := m) (fun _ bs => kwA π bs) (fun F as bs vs us _ h => kw_va h π) (a_nil (fun F σ H Q k q => h F σ H Q k fun bs vs Ω1 H1 ⟨e, hs⟩ => q bs vs Ω1 H1 ⟨rfl, e, hs⟩))
end
end Dat

set_option Elab.async false
set_option linter.all false
set_option maxRecDepth 100000
set_option maxHeartbeats 2000000
/-! enumerate of a tuple, zip of three tuples -/
namespace Enz
open PySem PySem.Spec PyProof.Rows L2
abbrev tIt (t : Addr) : Obj := { cls := .type "tuple_iterator", data := .fields #[.ref t, .int 0 0] }
theorem meets_new1 {v : Value} {ob : Obj} {Z : Heap → Prop} (B : Begins v ob Z) :
    Meets (Builtin.«enumerate.__new__» ⟨[.type "enumerate", v], []⟩) (fun _ R s => Z s.heap ∧
      R (.ok (.ret (.ref (s.heap.push ob).objs.size))) { s with heap := (s.heap.push ob).push { cls := .type "enumerate", data := .fields #[.none, .bool false, .ref s.heap.objs.size, rawInt 0, .none, .none] } }) :=
  .of_wp fun prog w A R s z => by
    obtain ⟨hp, gs, dr, tk, os⟩ := s; obtain ⟨z1, fin⟩ := z; have sb := sub_enumerate
    have it1 : ∀ {A2 : Around} {E2 : Value → Shared → Prop} {Q2 : Value → Shared → Prop}, Q2 (.ref hp.objs.size) ⟨hp.push ob, gs, dr, tk, os⟩ → wpAny (model prog w) A2 (pyIter v) Q2 E2 ⟨hp, gs, dr, tk, os⟩ :=
      fun y => B.iter prog w _ _ ⟨hp, gs, dr, tk, os⟩ _ z1 y
    wp_walk using it1
    refine wpAny_stack_any fun stk => wpAny_pure ?_; split
    · rename_i cl _ _ _ _ _; cases (cl == Value.type "enumerate")
      · wp_walk using it1; exact ⟨_, rfl, fin⟩
      · wp_walk using it1; exact ⟨_, rfl, fin⟩
    · wp_walk using it1; exact ⟨_, rfl, fin⟩
section
variable {prog : Program} {w : World} {A : Around} {E : Value → Shared → Prop} {s : Shared}
theorem call_enum1 {v : Value} {ob : Obj} {Z : Heap → Prop} {Q : Value → Shared → Prop} (B : Begins v ob Z) (z1 : Z s.heap)
    (fin : ∀ h2, IsEnum h2 (s.heap.objs.size + 1) s.heap.objs.size 0 .none → h2.get? s.heap.objs.size = some ob → (∀ b o, s.heap.get? b = some o → h2.get? b = some o) → Q (.ref (s.heap.objs.size + 1)) { s with heap := h2 }) :
    wpAny (model prog w) A (call (.type "enumerate") [v]) Q E s := by
  refine callType_new F.called_enumerate (by decide) (F.typeCall_enumerate_1 _) (F.newCall_enumerate_1 _) (fun x => F.args_object_init_2 x _) F.entry_enumerate_new (meets_new1 B) ⟨z1, ?_⟩
  have sz : (s.heap.push ob).objs.size = s.heap.objs.size + 1 := Heap.size_push ..
  show _ ∧ _; rw [sz]
  have ie : IsEnum ((s.heap.push ob).push { cls := .type "enumerate", data := .fields #[.none, .bool false, .ref s.heap.objs.size, rawInt 0, .none, .none] }) (s.heap.objs.size + 1) s.heap.objs.size 0 .none := by
    have y := Heap.get?_push_size (s.heap.push ob) (o := { cls := .type "enumerate", data := .fields #[.none, .bool false, .ref s.heap.objs.size, rawInt 0, .none, .none] }) rfl
    rw [sz] at y; exact y
  exact ⟨⟨_, ie, rfl⟩, fin _ ie (Heap.get?_push_of_some _ (Heap.get?_push_size _ B.free)) fun b o x => Heap.get?_push_of_some _ (Heap.get?_push_of_some _ x)⟩
end
/-- the tuple at a, each item in a new pair with its number -/
def IteT (K : PySem.W.Frag) (a : Addr) : It :=
  ⟨fun i H => ∃ (xs : List V) (x : V), SqT K H a xs ∧ xs[i]? = some x, fun i H v H' => ∃ T x, v = .ref T ∧ H T = none ∧ H' = upd H T (.tup [.int (i : Nat), x]) ∧ ∀ xs, SqT K H a xs → xs[i]? = some x, fun i H => ∃ xs : List V, SqT K H a xs ∧ xs.length = i⟩
theorem turn_enumT {P : Program} {w : World} {K : PySem.W.Frag} {elts : List Expr} {kk : Nat} {tpos : Pos} (a e it : Addr) :
    Turn P w K (.Tuple elts kk tpos) (IteT K a) [e, it] e (fun i h => (∃ old, IsEnum h e it ((i : Nat) : Int) old) ∧ h.IsTupleIter it a i ∧ e ≠ it ∧ e ≠ a ∧ a ≠ it) where
  mem := by simp
  obj := fun i h st b hb => by
    obtain ⟨⟨old, z1⟩, ⟨o, z2, _, z3⟩, _⟩ := st
    rcases (by simpa using hb : b = e ∨ b = it) with y | y
    · rw [y]; exact ⟨_, z1, fun v q => nomatch q⟩
    · rw [y]; exact ⟨o, z2, fun v q => by rw [z3] at q; cases q⟩
  keep := fun i h h' st k => let ⟨⟨old, z1⟩, z2, z3⟩ := st; ⟨⟨old, k e (by simp) _ z1⟩, z2.at fun o q => k it (by simp) o q, z3⟩
  item := by
    intro X hP hw hK hc i pins s σ H E I hf st hg
    subst hP hw hK
    obtain ⟨⟨old, z1⟩, z2, n1, n2, n3⟩ := st
    obtain ⟨xs, x, hq, hx⟩ := hg
    obtain ⟨its, rv, pt, _⟩ := I.tuple hq
    obtain ⟨u, hu, ru⟩ := rv.get hx
    have li : i < its.length := (List.getElem?_eq_some_iff.mp hu).1
    have el : e < s.heap.objs.size := Heap.lt_size z1
    have il : it < s.heap.objs.size := by obtain ⟨_, q, _⟩ := z2; exact Heap.lt_size q
    have dw := Draws.tuple (prog := X.prog) (w := X.w) (A := X.A.in1) (by simp [I.ok.hd hc]) it a n3 its.toArray
    refine wpAny_pyNext_enum_itemD dw z1 ⟨z2, pt⟩ (by simpa using li) n1 (by simp [n1, n2]) fun y h2 tk py io st2 hT sz k => ?_
    have ey : y = u := by
      have py' : its.toArray[i]? = some y := py
      rw [List.getElem?_toArray, hu] at py'
      exact (Option.some.inj py').symm
    subst ey
    refine ⟨_, rfl, wpAny_letOwnedTupleGo_enum (s := { s with heap := h2, toks := tk + 1 }) io fun h3 ie sb => ?_⟩
    have hT3 : h3.get? s.heap.objs.size = some { cls := .type "tuple", data := .seq #[.int i tk, y] } := (sb.2 _ (Nat.ne_of_gt el)).trans hT
    have new : ObjOk X.prog X.w (upd H s.heap.objs.size (.tup [.int (i : Nat), x])) h3 s.heap.objs.size (.tup [.int (i : Nat), x]) :=
      ⟨by show 2 ≤ sizeLine; decide, [.int i tk, y], .cons ⟨_, rfl⟩ (.cons ru .nil), ⟨_, hT3, rfl, _, rfl⟩⟩
    have I2 : Inv X pins σ (upd H s.heap.objs.size (.tup [.int (i : Nat), x])) { s with heap := h3, toks := tk + 1 } :=
      I.turnedNew (ch := [e, it]) (fun b o hb q => (sb.2 b (fun z => hb (by simp [z]))).trans (k b o (fun z => hb (by simp [z])) (fun z => hb (by simp [z])) q)) hf (Nat.le_refl _) new
    refine ⟨.ref s.heap.objs.size, _, I2, rfl, ⟨_, x, rfl, I.hok.fresh (Nat.le_refl _), rfl, fun ys hy => by rw [I.tuple_inj hy hq]; exact hx⟩, ⟨⟨y, ?_⟩, st2.1.at fun o q => (sb.2 it (Ne.symm n1)).trans q, n1, n2, n3⟩, fun b hb => ?_⟩
    · rw [show ((i + 1 : Nat) : Int) = (i : Int) + 1 by omega]; exact ie
    · have lb : b < s.heap.objs.size := by
        rcases (by simpa using hb : b = e ∨ b = it) with z | z
        · rw [z]; exact el
        · rw [z]; exact il
      rw [upd_ne (Nat.ne_of_lt lb)]; exact (hf b hb).1
  done := by
    intro X hP hw hK hc i pins s σ H E I hf st hg
    subst hP hw hK
    obtain ⟨⟨old, z1⟩, z2, n1, n2, n3⟩ := st
    obtain ⟨xs, hq, hx⟩ := hg
    obtain ⟨its, rv, pt, _⟩ := I.tuple hq
    obtain ⟨f0, f1, f2, f3, f4, f5⟩ := hf it (by simp)
    have ln := rv.length
    have dw := Draws.tuple (prog := X.prog) (w := X.w) (A := X.A.in1) (by simp [I.ok.hd hc]) it a n3 its.toArray
    have ei : i = its.toArray.size := by rw [List.size_toArray]; omega
    subst ei
    exact wpAny_pyNext_enum_endD dw z1 ⟨z2, pt⟩ fun h2 eb => ⟨rfl, I.turned (t' := s.toks) (fun b o hb q => eb b o hb q) f0 f1 f3 f4 f5⟩
  self := fun A i s Q E st h => let ⟨⟨_, z1⟩, _⟩ := st; wpAny_pyIter_enum z1 h
def iEnumT (K : PySem.W.Frag) (ta : TA) : TI := fun σ H R => ta σ H fun vs H1 => ∃ a xs, vs = [.ref a] ∧ SqT K H1 a xs ∧ R (IteT K a) H1
theorem pi_enumT {X : Cx} {e : Expr} {ta : TA} {p pos tpos : Pos} {elts : List Expr} {kk : Nat} (hg : Gl X "enumerate") (hm : X.mg "enumerate" = none) (ha : PA X [e] ta) (hs : starEach [e] X.env = [(false, eval e X.env)] := by rfl) :
    PI X (.Tuple elts kk tpos) (.Call (.Name "enumerate" p) [e] [] pos) (iEnumT X.K ta) := by
  refine ⟨fun pins s σ H R I h => Call_ (ld_blt I hg hm boot_enumerate (PyProof.Rows.callWith_type1 (thn (ha.run pos pins s σ H _ I h) fun us s1 ⟨vs, H1, I1, r1, q1⟩ => ?_) hs rfl))⟩
  obtain ⟨a, xs, ex, hq, q⟩ := q1
  subst ex
  cases r1 with | cons r rr =>
    cases rr; cases r
    obtain ⟨its, rv, pt, _⟩ := I1.tuple hq
    have la : a < s1.heap.objs.size := by obtain ⟨_, y, _⟩ := pt; exact Heap.lt_size y
    refine call_enum1 (begins_tuple a its.toArray) pt fun h2 ie gi k => wpAny_pyIter_enum ie ?_
    have I2 : Inv X pins σ H1 { s1 with heap := h2 } := I1.kept (t' := s1.toks) k
    refine ⟨s1.heap.objs.size + 1, [s1.heap.objs.size + 1, s1.heap.objs.size], _, _, H1, rfl, I2, turn_enumT a (s1.heap.objs.size + 1) s1.heap.objs.size, ⟨⟨.none, ie⟩, ⟨_, gi, rfl, rfl⟩, Nat.succ_ne_self _, Nat.ne_of_gt (Nat.lt_succ_of_lt la), Nat.ne_of_lt la⟩, fun b hb => ?_, q⟩
    have lb : s1.heap.objs.size ≤ b := by
      rcases (by simpa using hb : b = s1.heap.objs.size + 1 ∨ b = s1.heap.objs.size) with z | z
      · rw [z]; exact Nat.le_add_right _ _
      · rw [z]; exact Nat.le_refl _
    exact I1.fpOk lb (I1.hok.fresh lb)
/-! ### zip of three tuples -/
def ItzT3 (K : PySem.W.Frag) (a b c : Addr) : It :=
  ⟨fun i H => ∃ (xs ys zs : List V) (x y z : V), SqT K H a xs ∧ SqT K H b ys ∧ SqT K H c zs ∧ xs[i]? = some x ∧ ys[i]? = some y ∧ zs[i]? = some z,
    fun i H v H' => ∃ T x y z, v = .ref T ∧ H T = none ∧ H' = upd H T (.tup [x, y, z]) ∧ (∀ xs, SqT K H a xs → xs[i]? = some x) ∧ (∀ ys, SqT K H b ys → ys[i]? = some y) ∧ ∀ zs, SqT K H c zs → zs[i]? = some z,
    fun i H => ∃ xs ys zs : List V, SqT K H a xs ∧ SqT K H b ys ∧ SqT K H c zs ∧ xs.length = i ∧ ys.length = i ∧ zs.length = i⟩
theorem pick {its : List Value} {i : Nat} {u y : Value} (hu : its[i]? = some u) (hy : its.toArray[i]? = some y) : y = u := by
  rw [List.getElem?_toArray, hu] at hy
  exact (Option.some.inj hy).symm
theorem turn_zip3 {P : Program} {w : World} {K : PySem.W.Frag} {elts : List Expr} {kk : Nat} {tpos : Pos} {a b c z TI TO i1 i2 i3 : Addr} (D : ZipSep3 z TI TO i1 i2 i3 [i1, a] [i2, b] [i3, c]) (na : a ≠ i1) (nb : b ≠ i2) (nc : c ≠ i3) :
    Turn P w K (.Tuple elts kk tpos) (ItzT3 K a b c) [z, TI, TO, i1, i2, i3] z (fun i h => IsZip h z TI TO .none ∧ IsTupOf3 h TI (.ref i1) (.ref i2) (.ref i3) ∧ (∃ x y u, IsTupOf3 h TO x y u) ∧ h.IsTupleIter i1 a i ∧ h.IsTupleIter i2 b i ∧ h.IsTupleIter i3 c i) where
  mem := by simp
  obj := fun i h st m hm => by
    obtain ⟨hz, hTI, ⟨x, y, u, hTO⟩, ⟨o1, e1, _, d1⟩, ⟨o2, e2, _, d2⟩, ⟨o3, e3, _, d3⟩⟩ := st
    rcases (by simpa using hm : m = z ∨ m = TI ∨ m = TO ∨ m = i1 ∨ m = i2 ∨ m = i3) with q | q | q | q | q | q
    · rw [q]; exact ⟨_, hz, fun v q => nomatch q⟩
    · rw [q]; exact ⟨_, hTI, fun v q => nomatch q⟩
    · rw [q]; exact ⟨_, hTO, fun v q => nomatch q⟩
    · rw [q]; exact ⟨o1, e1, fun v q => by rw [d1] at q; cases q⟩
    · rw [q]; exact ⟨o2, e2, fun v q => by rw [d2] at q; cases q⟩
    · rw [q]; exact ⟨o3, e3, fun v q => by rw [d3] at q; cases q⟩
  keep := fun i h h' st k => by
    obtain ⟨hz, hTI, ⟨x, y, u, hTO⟩, h1, h2, h3⟩ := st
    exact ⟨k z (by simp) _ hz, k TI (by simp) _ hTI, ⟨x, y, u, k TO (by simp) _ hTO⟩, h1.at fun o q => k i1 (by simp) o q, h2.at fun o q => k i2 (by simp) o q, h3.at fun o q => k i3 (by simp) o q⟩
  item := by
    intro X hP hw hK hc i pins s σ H E I hf st hg
    subst hP hw hK
    obtain ⟨hz, hTI, ⟨x0, y0, u0, hTO⟩, h1, h2, h3⟩ := st
    obtain ⟨xs, ys, zs, x, y, t, hqx, hqy, hqz, hx, hy, ht⟩ := hg
    obtain ⟨its, rv, p1, _⟩ := I.tuple hqx; obtain ⟨jts, rw2, p2, _⟩ := I.tuple hqy; obtain ⟨kts, rw3, p3, _⟩ := I.tuple hqz
    obtain ⟨u1, hu1, ru1⟩ := rv.get hx; obtain ⟨u2, hu2, ru2⟩ := rw2.get hy; obtain ⟨u3, hu3, ru3⟩ := rw3.get ht
    have l1 : i < its.length := (List.getElem?_eq_some_iff.mp hu1).1; have l2 : i < jts.length := (List.getElem?_eq_some_iff.mp hu2).1; have l3 : i < kts.length := (List.getElem?_eq_some_iff.mp hu3).1
    have nh : X.A.in1.handled = none := by simp [I.ok.hd hc]
    have dw1 := Draws.tuple (prog := X.prog) (w := X.w) (A := X.A.in1) nh i1 a na its.toArray
    have dw2 := Draws.tuple (prog := X.prog) (w := X.w) (A := X.A.in1) nh i2 b nb jts.toArray
    have dw3 := Draws.tuple (prog := X.prog) (w := X.w) (A := X.A.in1) nh i3 c nc kts.toArray
    have zl : z < s.heap.objs.size := Heap.lt_size hz
    refine wpAny_pyNext_zipD3_item D dw1 dw2 dw3 hz hTI hTO ⟨h1, p1⟩ ⟨h2, p2⟩ ⟨h3, p3⟩ (by simpa using l1) (by simpa using l2) (by simpa using l3) fun v1 v2 v3 g tk q1 q2 q3 z' TO' s1 s2 s3 hT sz k => ?_
    have e1 := pick hu1 q1; have e2 := pick hu2 q2; have e3 := pick hu3 q3
    subst e1; subst e2; subst e3
    refine ⟨_, rfl, wpAny_letOwnedTupleGo_zip (s := { s with heap := g, toks := tk }) z' fun g2 z'' sb => ?_⟩
    have hT2 : g2.get? s.heap.objs.size = some { cls := .type "tuple", data := .seq #[v1, v2, v3] } := (sb.2 _ (Nat.ne_of_gt zl)).trans hT
    have new : ObjOk X.prog X.w (upd H s.heap.objs.size (.tup [x, y, t])) g2 s.heap.objs.size (.tup [x, y, t]) :=
      ⟨by show 3 ≤ sizeLine; decide, [v1, v2, v3], .cons ru1 (.cons ru2 (.cons ru3 .nil)), ⟨_, hT2, rfl, _, rfl⟩⟩
    have I2 : Inv X pins σ (upd H s.heap.objs.size (.tup [x, y, t])) { s with heap := g2, toks := tk } :=
      I.turnedNew (t' := tk) (ch := [z, TI, TO, i1, i2, i3]) (fun m o hb q => (sb.2 m (fun q' => hb (by simp [q']))).trans (k m o (fun q' => hb (by simp [q'])) (fun q' => hb (by simp [q'])) (fun q' => hb (by simp [q'])) (fun q' => hb (by simp [q'])) (fun q' => hb (by simp [q'])) q)) hf (Nat.le_refl _) new
    refine ⟨.ref s.heap.objs.size, _, I2, rfl, ⟨_, x, y, t, rfl, I.hok.fresh (Nat.le_refl _), rfl, fun l hl => by rw [I.tuple_inj hl hqx]; exact hx, fun l hl => by rw [I.tuple_inj hl hqy]; exact hy, fun l hl => by rw [I.tuple_inj hl hqz]; exact ht⟩, ⟨z'', ?_, ⟨v1, v2, v3, ?_⟩, ?_, ?_, ?_⟩, fun m hm => ?_⟩
    · exact (sb.2 _ D.TIz).trans (k _ _ D.TIz D.TITO D.TIi1 D.TIi2 D.TIi3 hTI)
    · exact (sb.2 _ D.TOz).trans TO'
    · exact s1.1.at fun o q => (sb.2 _ D.zi1.symm).trans q
    · exact s2.1.at fun o q => (sb.2 _ D.zi2.symm).trans q
    · exact s3.1.at fun o q => (sb.2 _ D.zi3.symm).trans q
    · have lm : m < s.heap.objs.size := by
        rcases (by simpa using hm : m = z ∨ m = TI ∨ m = TO ∨ m = i1 ∨ m = i2 ∨ m = i3) with q | q | q | q | q | q
        · rw [q]; exact zl
        · rw [q]; exact Heap.lt_size hTI
        · rw [q]; exact Heap.lt_size hTO
        · rw [q]; obtain ⟨_, w1, _⟩ := h1; exact Heap.lt_size w1
        · rw [q]; obtain ⟨_, w1, _⟩ := h2; exact Heap.lt_size w1
        · rw [q]; obtain ⟨_, w1, _⟩ := h3; exact Heap.lt_size w1
      rw [upd_ne (Nat.ne_of_lt lm)]; exact (hf m hm).1
  done := by
    intro X hP hw hK hc i pins s σ H E I hf st hg
    subst hP hw hK
    obtain ⟨hz, hTI, ⟨x0, y0, u0, hTO⟩, h1, h2, h3⟩ := st
    obtain ⟨xs, ys, zs, hqx, hqy, hqz, ln1, ln2, ln3⟩ := hg
    obtain ⟨its, rv, p1, _⟩ := I.tuple hqx; obtain ⟨jts, rw2, p2, _⟩ := I.tuple hqy; obtain ⟨kts, rw3, p3, _⟩ := I.tuple hqz
    have m1 := rv.length; have m2 := rw2.length; have m3 := rw3.length
    have nh : X.A.in1.handled = none := by simp [I.ok.hd hc]
    have dw1 := Draws.tuple (prog := X.prog) (w := X.w) (A := X.A.in1) nh i1 a na its.toArray
    have dw2 := Draws.tuple (prog := X.prog) (w := X.w) (A := X.A.in1) nh i2 b nb jts.toArray
    have dw3 := Draws.tuple (prog := X.prog) (w := X.w) (A := X.A.in1) nh i3 c nc kts.toArray
    exact wpAny_pyNext_zipD3_end D dw1 dw2 dw3 hz hTI hTO ⟨h1, p1⟩ ⟨h2, p2⟩ ⟨h3, p3⟩ (by simp; omega) (by simp; omega) (by simp; omega) (.inl (by simp; omega)) fun g tk k => ⟨rfl, I.turnedL (t' := tk) (ch := [z, TI, TO, i1, i2, i3]) (fun m o hb q =>
      k m o (fun q' => hb (by simp [q'])) (fun q' => hb (by simp [q'])) (fun q' => hb (by simp [q'])) (fun q' => hb (by simp [q'])) (fun q' => hb (by simp [q'])) q) hf⟩
  self := fun A i s Q E st h => wpAny_pyIter_zip st.1 h
def iZip3 (K : PySem.W.Frag) (ta : TA) : TI := fun σ H R => ta σ H fun vs H1 => ∃ a b c xs ys zs, vs = [.ref a, .ref b, .ref c] ∧ SqT K H1 a xs ∧ SqT K H1 b ys ∧ SqT K H1 c zs ∧ R (ItzT3 K a b c) H1
theorem pi_zip3 {X : Cx} {e e2 e3 : Expr} {ta : TA} {p pos tpos : Pos} {elts : List Expr} {kk : Nat} (hg : Gl X "zip") (hm : X.mg "zip" = none) (ha : PA X [e, e2, e3] ta)
    (hs : starEach [e, e2, e3] X.env = (false, eval e X.env) :: starEach [e2, e3] X.env := by rfl) (hpl : (backTo pos (starEach [e2, e3] X.env)).any (·.1) = false := by rfl) :
    PI X (.Tuple elts kk tpos) (.Call (.Name "zip" p) [e, e2, e3] [] pos) (iZip3 X.K ta) := by
  refine ⟨fun pins s σ H R I h => Call_ (ld_blt I hg hm PyProof.Rows.boot_zip (PyProof.Rows.callWith_type1 (thn (ha.run pos pins s σ H _ I h) fun us s1 ⟨vs, H1, I1, r1, q1⟩ => ?_) hs hpl))⟩
  obtain ⟨a, b, c, xs, ys, zs, ex, hqa, hqb, hqc, q⟩ := q1
  subst ex
  cases r1 with | cons ra r1 => cases r1 with | cons rb r1 => cases r1 with | cons rc r1 =>
    cases r1; cases ra; cases rb; cases rc
    obtain ⟨its, _, p1, _⟩ := I1.tuple hqa; obtain ⟨jts, _, p2, _⟩ := I1.tuple hqb; obtain ⟨kts, _, p3, _⟩ := I1.tuple hqc
    have la : a < s1.heap.objs.size := by obtain ⟨_, y, _⟩ := p1; exact Heap.lt_size y
    have lb : b < s1.heap.objs.size := by obtain ⟨_, y, _⟩ := p2; exact Heap.lt_size y
    have lc : c < s1.heap.objs.size := by obtain ⟨_, y, _⟩ := p3; exact Heap.lt_size y
    refine zip_begins3 (begins_tuple a its.toArray) (begins_tuple b jts.toArray) (begins_tuple c kts.toArray) p1 p2 p3 fun g hz hTI hTO g1 g2 g3 _ k => wpAny_pyIter_zip hz ?_
    have I2 : Inv X pins σ H1 { s1 with heap := g } := I1.kept (t' := s1.toks) k
    have sep : ZipSep3 (s1.heap.objs.size + 5) (s1.heap.objs.size + 3) (s1.heap.objs.size + 4) s1.heap.objs.size (s1.heap.objs.size + 1) (s1.heap.objs.size + 2) [s1.heap.objs.size, a] [s1.heap.objs.size + 1, b] [s1.heap.objs.size + 2, c] :=
      zip_sep3 (fp1 := [a]) (fp2 := [b]) (fp3 := [c]) (by simpa using la) (by simpa using lb) (by simpa using lc)
    refine ⟨s1.heap.objs.size + 5, [s1.heap.objs.size + 5, s1.heap.objs.size + 3, s1.heap.objs.size + 4, s1.heap.objs.size, s1.heap.objs.size + 1, s1.heap.objs.size + 2], _, _, H1, rfl, I2, turn_zip3 sep (Nat.ne_of_lt la) (Nat.ne_of_lt (Nat.lt_succ_of_lt lb)) (Nat.ne_of_lt (Nat.lt_succ_of_lt (Nat.lt_succ_of_lt lc))), ⟨hz, hTI, ⟨_, _, _, hTO⟩, ⟨_, g1, rfl, rfl⟩, ⟨_, g2, rfl, rfl⟩, ⟨_, g3, rfl, rfl⟩⟩, fun m hm => ?_, q⟩
    have lm : s1.heap.objs.size ≤ m := by
      rcases (by simpa using hm : m = s1.heap.objs.size + 5 ∨ m = s1.heap.objs.size + 3 ∨ m = s1.heap.objs.size + 4 ∨ m = s1.heap.objs.size ∨ m = s1.heap.objs.size + 1 ∨ m = s1.heap.objs.size + 2) with z | z | z | z | z | z
      all_goals (rw [z]; first | exact Nat.le_add_right _ _ | exact Nat.le_refl _)
    exact I1.fpOk lm (I1.hok.fresh lm)
end Enz

set_option Elab.async false
set_option linter.all false
set_option maxRecDepth 100000
set_option maxHeartbeats 1000000
namespace Dat
open PySem PySem.Spec PyProof.Rows L2
theorem enumTQ {X : Cx} {K : PySem.W.Frag} [Tb K] {e : Expr} {ta : TA} {p pos tpos : Pos} {elts : List Expr} {kk : Nat} (hK : X.K = K) (hg : Gl X "enumerate") (hm : X.mg "enumerate" = none) (ha : PA X [e] ta) (hs : starEach [e] X.env = [(false, eval e X.env)] := by rfl) :
    PI X (.Tuple elts kk tpos) (.Call (.Name "enumerate" p) [e] [] pos) (Enz.iEnumT K ta) := by
  subst hK
  exact Enz.pi_enumT hg hm ha hs
theorem zip3Q {X : Cx} {K : PySem.W.Frag} [Tb K] {e e2 e3 : Expr} {ta : TA} {p pos tpos : Pos} {elts : List Expr} {kk : Nat} (hK : X.K = K) (hg : Gl X "zip") (hm : X.mg "zip" = none) (ha : PA X [e, e2, e3] ta)
    (hs : starEach [e, e2, e3] X.env = (false, eval e X.env) :: starEach [e2, e3] X.env := by rfl) (hpl : (backTo pos (starEach [e2, e3] X.env)).any (·.1) = false := by rfl) :
    PI X (.Tuple elts kk tpos) (.Call (.Name "zip" p) [e, e2, e3] [] pos) (Enz.iZip3 K ta) := by
  subst hK
  exact Enz.pi_zip3 hg hm ha hs hpl
def enumA (ds : List PyData) : List Av := (List.range ds.length).map fun k => .dat (.tuple [.int (k : Nat), ds.getD k .none])
def zipA (ds es : List PyData) : List Av := (List.range ds.length).map fun k => .dat (.tuple [ds.getD k .none, es.getD k .none])
def zip3A (ds es fs : List PyData) : List Av := (List.range ds.length).map fun k => .dat (.tuple [ds.getD k .none, es.getD k .none, fs.getD k .none])
section
variable {K : PySem.W.Frag} [Tb K] {Γ : List (Option Av)} {Ω : AH} {tl : TA} {ds es fs : List PyData}
theorem rng_at {β : Type} {n i : Nat} {f : Nat → β} {b : β} (h : ((List.range n).map f)[i]? = some b) : i < n ∧ b = f i := by
  rw [List.getElem?_map] at h
  by_cases hi : i < n
  · rw [List.getElem?_range hi] at h
    cases h
    exact ⟨hi, rfl⟩
  · rw [List.getElem?_eq_none (by rw [List.length_range]; omega)] at h
    cases h
theorem getD_dq {H : Hp} {vs : List V} {i : Nat} (g : DqAll K H vs ds) (hi : i < ds.length) : ∃ v, vs[i]? = some v ∧ Dq K H v (ds.getD i .none) := by
  rw [List.getD_eq_getElem?_getD]
  have e : ds[i]? = some ds[i] := List.getElem?_eq_getElem hi
  rw [e]
  exact g.get e
theorem walk_enumT {F : Hp} {a : Addr} {xs : List V} (h : SqT K F a xs) (g : DqAll K F xs ds) : WalkA K F (Enz.IteT K a) (enumA ds) := by
  constructor
  · intro Ω H k i b e
    obtain ⟨hi, rfl⟩ := rng_at e
    obtain ⟨v, ev, hv⟩ := getD_dq g hi
    refine ⟨⟨xs, v, sqT_same (k.fr.trans Fz_le) h, ev⟩, fun x H' hy => ?_⟩
    obtain ⟨T, x2, rfl, nT, rfl, f⟩ := hy
    have := f xs (sqT_same (k.fr.trans Fz_le) h)
    rw [ev] at this
    cases this
    exact ⟨same_new nT, .dat (tup_new k nT (.cons (.int _) (.cons (hv.same k.fr) .nil)))⟩
  · intro Ω H k
    exact ⟨xs, sqT_same (k.fr.trans Fz_le) h, by rw [g.length]; simp [enumA]⟩
theorem walk_zipT {F : Hp} {a b : Addr} {xs ys : List V} (h : SqT K F a xs) (g : DqAll K F xs ds) (h2 : SqT K F b ys) (g2 : DqAll K F ys es) (hl : ds.length = es.length) : WalkA K F (RZ.ItzT K a b) (zipA ds es) := by
  constructor
  · intro Ω H k i c e
    obtain ⟨hi, rfl⟩ := rng_at e
    obtain ⟨v, ev, hv⟩ := getD_dq g hi
    obtain ⟨u, eu, hu⟩ := getD_dq g2 (i := i) (by omega)
    refine ⟨⟨xs, ys, v, u, sqT_same (k.fr.trans Fz_le) h, sqT_same (k.fr.trans Fz_le) h2, ev, eu⟩, fun x H' hy => ?_⟩
    obtain ⟨T, x2, y2, rfl, nT, rfl, f, f2⟩ := hy
    have t1 := f xs (sqT_same (k.fr.trans Fz_le) h)
    have t2 := f2 ys (sqT_same (k.fr.trans Fz_le) h2)
    rw [ev] at t1
    rw [eu] at t2
    cases t1
    cases t2
    exact ⟨same_new nT, .dat (tup_new k nT (.cons (hv.same k.fr) (.cons (hu.same k.fr) .nil)))⟩
  · intro Ω H k
    exact ⟨xs, ys, sqT_same (k.fr.trans Fz_le) h, sqT_same (k.fr.trans Fz_le) h2, .inl (by rw [g.length]; simp [zipA])⟩
theorem walk_zip3 {F : Hp} {a b c : Addr} {xs ys zs : List V} (h : SqT K F a xs) (g : DqAll K F xs ds) (h2 : SqT K F b ys) (g2 : DqAll K F ys es) (h3 : SqT K F c zs) (g3 : DqAll K F zs fs) (hl : ds.length = es.length) (hl2 : ds.length = fs.length) : WalkA K F (Enz.ItzT3 K a b c) (zip3A ds es fs) := by
  constructor
  · intro Ω H k i m e
    obtain ⟨hi, rfl⟩ := rng_at e
    obtain ⟨v, ev, hv⟩ := getD_dq g hi
    obtain ⟨u, eu, hu⟩ := getD_dq g2 (i := i) (by omega)
    obtain ⟨t, et, ht⟩ := getD_dq g3 (i := i) (by omega)
    refine ⟨⟨xs, ys, zs, v, u, t, sqT_same (k.fr.trans Fz_le) h, sqT_same (k.fr.trans Fz_le) h2, sqT_same (k.fr.trans Fz_le) h3, ev, eu, et⟩, fun x H' hy => ?_⟩
    obtain ⟨T, x2, y2, z2, rfl, nT, rfl, f, f2, f3⟩ := hy
    have t1 := f xs (sqT_same (k.fr.trans Fz_le) h)
    have t2 := f2 ys (sqT_same (k.fr.trans Fz_le) h2)
    have t3 := f3 zs (sqT_same (k.fr.trans Fz_le) h3)
    rw [ev] at t1
    rw [eu] at t2
    rw [et] at t3
    cases t1
    cases t2
    cases t3
    exact ⟨same_new nT, .dat (tup_new k nT (.cons (hv.same k.fr) (.cons (hu.same k.fr) (.cons (ht.same k.fr) .nil))))⟩
  · intro Ω H k
    have := g.length
    have := g2.length
    have := g3.length
    refine ⟨xs, ys, zs, sqT_same (k.fr.trans Fz_le) h, sqT_same (k.fr.trans Fz_le) h2, sqT_same (k.fr.trans Fz_le) h3, ?_, ?_, ?_⟩ <;> (simp [zip3A]; omega)
theorem i_enumT {P : List Av → AH → Prop} (h : AW K tl Γ Ω fun as Ω1 => ∃ ds, as = [.dat (.tuple ds)] ∧ P (enumA ds) Ω1) : IW K (Enz.iEnumT K tl) Γ Ω P := fun F σ H R k q =>
  h F σ H _ k fun as vs Ω1 H1 ⟨ds, e, hp⟩ k1 v1 => by
    subst e
    cases v1 with | cons va v1 => cases v1; cases va with | dat va => cases va with | tup hs g =>
      exact ⟨_, _, rfl, sqT_same Fz_le hs, q _ _ _ _ hp k1 (walk_enumT hs g)⟩
theorem i_zipT {P : List Av → AH → Prop} (h : AW K tl Γ Ω fun as Ω1 => ∃ ds es, as = [.dat (.tuple ds), .dat (.tuple es)] ∧ ds.length = es.length ∧ P (zipA ds es) Ω1) : IW K (RZ.iZipA K tl) Γ Ω P := fun F σ H R k q =>
  h F σ H _ k fun as vs Ω1 H1 ⟨ds, es, e, hl, hp⟩ k1 v1 => by
    subst e
    cases v1 with | cons va v1 => cases v1 with | cons vb v1 => cases v1; cases va with | dat va => cases vb with | dat vb => cases va with | tup hs g => cases vb with | tup hs2 g2 =>
      exact ⟨_, _, _, _, rfl, .inr ⟨sqT_same Fz_le hs, sqT_same Fz_le hs2, q _ _ _ _ hp k1 (walk_zipT hs g hs2 g2 hl)⟩⟩
theorem i_zip3 {P : List Av → AH → Prop} (h : AW K tl Γ Ω fun as Ω1 => ∃ ds es fs, as = [.dat (.tuple ds), .dat (.tuple es), .dat (.tuple fs)] ∧ ds.length = es.length ∧ ds.length = fs.length ∧ P (zip3A ds es fs) Ω1) : IW K (Enz.iZip3 K tl) Γ Ω P := fun F σ H R k q =>
  h F σ H _ k fun as vs Ω1 H1 ⟨ds, es, fs, e, hl, hl2, hp⟩ k1 v1 => by
    subst e
    cases v1 with | cons va v1 => cases v1 with | cons vb v1 => cases v1 with | cons vc v1 => cases v1; cases va with | dat va => cases vb with | dat vb => cases vc with | dat vc => cases va with | tup hs g => cases vb with | tup hs2 g2 => cases vc with | tup hs3 g3 =>
      exact ⟨_, _, _, _, _, _, rfl, sqT_same Fz_le hs, sqT_same Fz_le hs2, sqT_same Fz_le hs3, q _ _ _ _ hp k1 (walk_zip3 hs g hs2 g2 hs3 g3 hl hl2)⟩
/-! range(i, j, -1) -/
def rngC (lo c : Int) (n : Nat) : List Av := (List.range n).map fun k => .dat (.int (lo + (k : Nat) * c))
theorem walk_rc {F : Hp} (lo c : Int) (n : Nat) : WalkA K F (Itc lo c n) (rngC lo c n) := by
  constructor
  · intro Ω H k i b e
    obtain ⟨hi, rfl⟩ := rng_at e
    exact ⟨hi, fun x H' hy => by
      obtain ⟨rfl, rfl⟩ := hy
      exact ⟨Same.refl _, .dat (.int _)⟩⟩
  · intro Ω H k
    show n ≤ (rngC lo c n).length
    simp [rngC]
theorem i_rngD {P : List Av → AH → Prop} (h : AW K tl Γ Ω fun as Ω1 => ∃ i j : Int, as = [.dat (.int i), .dat (.int j), .dat (.int (-1))] ∧ (-(2 ^ 62) ≤ i ∧ i < 2 ^ 62 ∧ -(2 ^ 62) ≤ j ∧ j < 2 ^ 62) ∧ P (rngC i (-1) (i - j).toNat) Ω1) : IW K (iRng3 tl) Γ Ω P := fun F σ H R k q =>
  h F σ H _ k fun as vs Ω1 H1 ⟨i, j, e, b, hp⟩ k1 v1 => by
    subst e
    cases v1 with | cons va v1 => cases v1 with | cons vb v1 => cases v1 with | cons vc v1 => cases v1; cases va with | dat va => cases vb with | dat vb => cases vc with | dat vc =>
      cases va
      cases vb
      cases vc
      exact ⟨i, j, -1, _, rfl, RgC.neg b.1 b.2.1 b.2.2.1 b.2.2.2, q _ _ _ _ hp k1 (walk_rc i (-1) _)⟩
/-! lists held alone -/
variable {p : Addr} {P : Av → AH → Prop} {t : TS} {E : EndA} {te : TE}
theorem s_forget (e : Ω p = some (ds.map .dat)) (h : SW K t Γ (del Ω p) E) : SW K t Γ Ω E := fun F σ H D k e' => h F σ H D (k.frz e).1 e'
theorem e_slP {tl th : TO} (h : EW K te Γ Ω fun a Ω1 => ∃ p ds, a = .ptr p ∧ Ω1 p = some (ds.map .dat) ∧ OW K tl Γ Ω1 fun lo Ω2 => Ω2 = Ω1 ∧ OW K th Γ Ω2 fun hi Ω3 => Ω3 = Ω1 ∧ P (.dat (.list (cutD ds lo hi))) Ω3) : EW K (tSl (rSlL K) te tl th) Γ Ω P := fun F σ H Q k q =>
  h F σ H _ k fun a v Ω1 H1 ⟨p, ds, e, o, h1⟩ k1 v1 => by
    subst e
    cases v1
    refine h1 (Fz Ω1 H1) σ H1 _ k1.re fun lo Ω2 H2 ⟨e2, h2⟩ k2 => ?_
    subst e2
    refine h2 _ σ H2 _ k2.re fun hi Ω3 H3 ⟨e3, h3⟩ k3 => ?_
    subst e3
    obtain ⟨xs, hx, g⟩ := k3.st p _ o
    exact ⟨_, _, rfl, SqL.of hx, fun u nu => q _ _ _ _ h3 ((k3.anchor (k1.fr.trans k2.fr)).same (same_new nu)) (.dat (lst_new k3 nu (g.dats.cut lo hi)))⟩
/-- [x] * n -/
theorem r_repL {k : Int} (h1 : 0 ≤ k) (h2 : k ≤ 10000) (hl : ds.length ≤ 5) (h : P (.dat (.list (List.replicate k.toNat ds).flatten)) Ω) : R2W K rRep (.dat (.list ds)) (.dat (.int k)) Ω P := fun F H x y Q kk hx hy q => by
  cases hx with | dat hx => cases hy with | dat hy =>
    cases hy
    cases hx with | lst hs g =>
      have l := g.length
      have z : ds.length * k.toNat ≤ 5 * 10000 := Nat.mul_le_mul hl (by omega)
      refine ⟨_, k, _, rfl, rfl, Fz_le _ _ hs, by omega, by omega, by rw [l]; exact sz_of (by omega), fun u nu => q _ _ _ _ h (kk.same (same_new nu)) (.dat (lst_new kk nu (dqAll_flat' g _)))⟩
theorem flat_one {α : Type} (x : α) : ∀ n : Nat, (List.replicate n [x]).flatten = List.replicate n x
  | 0 => rfl
  | n + 1 => by rw [List.replicate_succ, List.flatten_cons, flat_one x n, List.replicate_succ]; rfl
/-- a new list that changes no more -/
theorem frzNew {L : List PyData} (h : P (.dat (.list L)) Ω) : ∀ q, Ω q = none → (fun a Ω' => ∃ p ds, a = .ptr p ∧ Ω' p = some (ds.map .dat) ∧ P (.dat (.list ds)) (del Ω' p)) (Av.ptr q) (put Ω q (L.map .dat)) := fun q nq =>
  ⟨q, L, rfl, put_same, by rw [del_put nq]; exact h⟩
end
end Dat

set_option Elab.async false
set_option linter.all false
set_option maxRecDepth 100000
set_option maxHeartbeats 1000000
namespace Dat
open PySem PySem.Spec PyProof.Rows L2
section
variable {K : PySem.W.Frag} [Tb K]
theorem r_ixL_any {Ω : AH} {ds : List PyData} {v : Int} {P : Av → AH → Prop} (h0 : 0 ≤ v) (h1 : v < ds.length) (h : ∀ d ∈ ds, P (.dat d) Ω) : R2W K (rIxL K) (.dat (.list ds)) (.dat (.int v)) Ω P := by
  obtain ⟨n, rfl⟩ : ∃ n : Nat, v = n := ⟨v.toNat, (Int.toNat_of_nonneg h0).symm⟩
  have hn : n < ds.length := by omega
  exact r_ixL (atI_nat' (List.getElem?_eq_getElem hn)) (h _ (List.getElem_mem hn))
def intsOf (ds : List PyData) : List Int := ds.map fun | .int i => i | _ => 0
theorem r_ixL_ints {Ω : AH} {ds : List PyData} {v : Int} {P : Av → AH → Prop} (lo hi : Int) (e : ds = (intsOf ds).map PyData.int) (hb : ∀ n ∈ intsOf ds, lo ≤ n ∧ n ≤ hi) (h0 : 0 ≤ v) (h1 : v < ds.length)
    (h : ∀ n, lo ≤ n → n ≤ hi → P (.dat (.int n)) Ω) : R2W K (rIxL K) (.dat (.list ds)) (.dat (.int v)) Ω P :=
  r_ixL_any h0 h1 fun d hd => by
    rw [e] at hd
    obtain ⟨n, hn, rfl⟩ := List.mem_map.mp hd
    exact h n (hb n hn).1 (hb n hn).2
/-- a literal list of numbers -/
def tLits : List Int → TA
  | [] => tNil
  | n :: r => tCons (tC (.int n)) (tLits r)
theorem a_lits {Γ : List (Option Av)} {Ω : AH} : ∀ (ns : List Int) {P : List Av → AH → Prop}, P ((ns.map PyData.int).map .dat) Ω → AW K (tLits ns) Γ Ω P
  | [], _, h => a_nil h
  | n :: r, _, h => a_cons (e_int (a_lits r h))
theorem e_lits {Γ : List (Option Av)} {Ω : AH} {P : Av → AH → Prop} (ns : List Int) (h : P (.dat (.list (ns.map PyData.int))) Ω) (hl : Nat.ble ns.length 100000 = true := by rfl) : EW K (tLst (tLits ns)) Γ Ω P :=
  e_lst (a_lits ns ⟨_, rfl, by rw [List.length_map]; exact Nat.le_of_ble_eq_true hl, h⟩)
theorem put_comm {Ω : AH} {p q : Addr} {as bs : List Av} (h : p ≠ q) : put (put Ω p as) q bs = put (put Ω q bs) p as := by
  refine AH.ext (fun a => ?_) rfl
  unfold put
  dsimp only
  by_cases e1 : a = q
  · by_cases e2 : a = p
    · exact absurd (e2.symm.trans e1) h
    · rw [if_pos e1, if_neg e2, if_pos e1]
  · rw [if_neg e1, if_neg e1]
end
end Dat

set_option Elab.async false
set_option linter.all false
set_option maxRecDepth 100000
set_option maxHeartbeats 1000000
/-! lambdas that hold data, handed to defs of the text -/
namespace Dat
open PySem PySem.Spec PyProof.Rows L2 LamX NdefX Clo
abbrev LSp := List PyData → ASp
def spL (K : PySem.W.Frag) [Tb K] (sp : LSp) : List (Option V) → Sp := fun ws vs H Q _ => ∃ (F : Hp) (Ω : AH) (as : List Av) (P : Av → AH → Prop) (cap : List (V × PyData)), Ok K F Ω [] [] H ∧ VAll K (Fz Ω H) as vs ∧ ws = cap.map (fun c => some c.1) ∧
  (∀ c ∈ cap, Dq K (Fz Ω H) c.1 c.2) ∧ sp (cap.map (·.2)) as Ω P ∧ ∀ a v Ω' H', P a Ω' → Ok K F Ω' [] [] H' → VOk K (Fz Ω' H') a v → Q v H'
/-- what a def promises that is given a lambda -/
abbrev CSp := Addr → Addr → List (V × PyData) → ASp
def spCl (K : PySem.W.Frag) [Tb K] (sp : CSp) (f c' : Addr) : List (Option V) → Sp := fun ws vs H Q _ => ∃ (F : Hp) (Ω : AH) (as : List Av) (P : Av → AH → Prop) (cap : List (V × PyData)), Ok K F Ω [] [] H ∧ VAll K (Fz Ω H) as vs ∧ ws = cap.map (fun c => some c.1) ∧
  sp f c' cap as Ω P ∧ ∀ a v Ω' H', P a Ω' → Ok K F Ω' [] [] H' → VOk K (Fz Ω' H') a v → Q v H'
theorem Slots.app {K : PySem.W.Frag} {F : Hp} : ∀ {Γ Γ2 : List (Option Av)} {σ σ2 : List (Option V)}, Slots K F Γ σ → Slots K F Γ2 σ2 → Slots K F (Γ ++ Γ2) (σ ++ σ2)
  | _, _, _, _, .nil, h => h
  | _, _, _, _, .no g, h => .no (Slots.app g h)
  | _, _, _, _, .yes v g, h => .yes v (Slots.app g h)
theorem Slots.ofAll {K : PySem.W.Frag} {F : Hp} : ∀ {as : List Av} {vs : List V}, VAll K F as vs → Slots K F (as.map some) (vs.map some)
  | _, _, .nil => .nil
  | _, _, .cons h g => .yes h (Slots.ofAll g)
theorem Slots.ofCap {K : PySem.W.Frag} {F : Hp} : ∀ {cap : List (V × PyData)}, (∀ c ∈ cap, Dq K F c.1 c.2) → Slots K F ((cap.map (·.2)).map fun d => some (Av.dat d)) (cap.map fun c => some c.1)
  | [], _ => .nil
  | c :: r, h => .yes (.dat (h c (List.mem_cons_self ..))) (Slots.ofCap fun x m => h x (List.mem_cons_of_mem _ m))
theorem Slots.rep {K : PySem.W.Frag} {F : Hp} : ∀ n : Nat, Slots K F (List.replicate n none) (List.replicate n none)
  | 0 => .nil
  | n + 1 => .no (Slots.rep n)
section
variable {P : Program} {w : World} {K : PySem.W.Frag} [Tb K] {mg : Str → Option Value} {base : Heap}
theorem lokA_of {N ps fr : List Str} {F : NF} {f : Addr} {k : Nat} {sp : LSp} {body : Expr} (S : NScope N ps fr F.scope) (hb : ∀ (pm ctv : Value) (us : List Value), us.length = ps.length → bindArgs (PySem.W.kla_fn F.name F.qual F.params body F.scope F.cl pm (.ref F.c) ctv) ⟨us, []⟩ = pure (ps.zip us))
    (len : ∀ cs as Ω P, sp cs as Ω P → as.length = ps.length)
    (hbody : ∀ (A : Around) (outer : List Env) (s : Shared) (H : Hp) (E : XK), Room k (A.deeper (envF F f s.heap.objs.size)) →
      ∃ t, PE (ncx CX0 P w K mg base N F f A outer s H E) body t ∧ ∀ cs as Ω P, sp cs as Ω P → EW K t (as.map some ++ ((cs.map fun d => some (Av.dat d)) ++ List.replicate (N.length - as.length - cs.length) none)) Ω P) :
    LOk P w K mg base CX0 (k + 1) f F body ps fr (spL K sp) := by
  refine lok_of S hb (fun ws vs H Q E h => ?_) (fun A outer s H vs ws Q E hr hl h => ?_)
  · obtain ⟨F0, Ω, as, P, cap, k0, va, ew, g, h, q⟩ := h
    exact va.length.trans (len _ _ _ _ h)
  · obtain ⟨t, ht, hs⟩ := hbody A outer s H E hr
    obtain ⟨F0, Ω, as, P, cap, k0, va, rfl, g, h, q⟩ := h
    refine ⟨t, ht, hs _ as Ω P h F0 _ H Q ⟨k0.fr, k0.st, ?_, k0.tb, k0.ob⟩ fun a v Ω' H' hp k' hv => q a v Ω' H' hp k'.bare hv⟩
    unfold startF
    rw [va.length, List.length_map, List.length_map]
    exact (Slots.ofAll va).app ((Slots.ofCap g).app (Slots.rep _))
theorem fncA_of {x qual : Str} {st : Stmt} {g : Addr} {gd : FuncData} {N ps : List Str} {cl : List (Str × Addr)} {fr : List Str} {k : Nat} {sp : CSp} {f c' : Addr} (F : L2.Fun K x qual st g gd) (S : FnScope N ps (defScope st))
    (hbody : ∀ (cap : List (V × PyData)) (cdv : Value) (A : Around) (outer : List Env) (s : Shared) (H : Hp) (E : XK), Room k (A.deeper (envOfC qual (defScope st) s.heap.objs.size g cdv)) → CellsAt cl fr (cap.map fun c => some c.1) s.heap H →
      ∃ t, PSs (cxOf CX0 P w K mg base N qual (defScope st) g cdv A outer s H E).nox (defBody st) t ∧ ∀ as Ω P, sp f c' cap as Ω P → SW K t (as.map some ++ List.replicate (N.length - as.length) none) Ω { nx := fun _ Ω' => P (.dat .none) Ω', rt := P }) :
    FnC P w K mg base CX0 (k + 1) g gd ps cl fr (spCl K sp f c') := by
  refine fnc_of F S fun cdv A outer s H vs ws Q E hr C h => ?_
  obtain ⟨F0, Ω, as, P, cap, k0, va, rfl, h, q⟩ := h
  obtain ⟨t, ht, hs⟩ := hbody cap cdv A outer s H E hr C
  refine ⟨t, ht, hs as Ω P h F0 (L2.start N vs) H _ ⟨k0.fr, k0.st, ?_, k0.tb, k0.ob⟩ ⟨fun Γ' σ' Ω' H' hp k' => q _ _ _ _ hp k'.bare (.dat .non), fun a v Ω' H' hp k' hv => q _ _ _ _ hp k' hv, fun _ _ _ _ z => z.elim, fun _ _ _ _ z => z.elim⟩⟩
  unfold L2.start
  rw [va.length]
  exact Slots.start (N := N) va _
/-- a def whose code object is known -/
structure DefC (K : PySem.W.Frag) (mg : Str → Option Value) (x : Str) (st : Stmt) (ps : List Str) (dvs : List V) (f : Addr) (fd : FuncData) (cw : Addr) : Prop where
  ex : ∃ (oc : Value) (od : Option Addr) (dV kV doc pm : Value) (an : Option Addr) (ct : Value) (osl : Array (Option Value)), fd = PySem.W.fnOf x x (defArgs st) (defBody st) (defScope st) dV kV doc pm an (.ref cw) ct ∧ K.lookup f = some ⟨oc, od, .func fd, osl⟩ ∧ PySem.W.codeIn K (.ref cw) x = true
  g : mg x = some (.ref f)
  kp : PySem.W.keepIn K (.ref f) = true
  b : ∃ ds, Vals dvs ds ∧ Binds K fd ps ds
theorem fnA_okC {x : Str} {st : Stmt} {f : Addr} {fd : FuncData} {N ps : List Str} {dvs : List V} {k : Nat} {sp : ASp} {cw : Addr} (D : DefC K mg x st ps dvs f fd cw) (S : FnScope N ps (defScope st)) (len : ∀ as Ω P, sp as Ω P → as.length = ps.length)
    (hbody : ∀ (A : Around) (outer : List Env) (s : Shared) (H : Hp) (E : XK), Room k (A.deeper (envOfC x (defScope st) s.heap.objs.size f (.ref cw))) →
      ∃ t, PSs (cxOf CX0 P w K mg base N x (defScope st) f (.ref cw) A outer s H E) (defBody st) t ∧ ∀ as Ω P, sp as Ω P → SW K t (as.map some ++ List.replicate (N.length - as.length) none) Ω { nx := fun _ Ω' => P (.dat .none) Ω', rt := P }) :
    FnOk P w K mg base CX0 (k + 1) f fd ps (spA K sp) := by
  obtain ⟨oc, od, dV, kV, doc, pm, an, ct, osl, rfl, lk, hcd⟩ := D.ex
  refine fn_of lk hcd S (spA_len len) fun A outer s H vs Q E hr h => ?_
  obtain ⟨t, ht, hs⟩ := hbody A outer s H E hr
  obtain ⟨F0, Ω, as, P, k0, va, h, hq⟩ := h
  refine ⟨t, ht, hs as Ω P h F0 (L2.start N vs) H _ ⟨k0.fr, k0.st, ?_, k0.tb, k0.ob⟩ ⟨fun Γ' σ' Ω' H' hp k' => hq _ _ _ _ hp k'.bare (.dat .non), fun a v Ω' H' hp k' hv => hq _ _ _ _ hp k' hv, fun _ _ _ _ z => z.elim, fun _ _ _ _ z => z.elim⟩⟩
  unfold L2.start
  rw [va.length]
  exact Slots.start (N := N) va _
end
section
variable {K : PySem.W.Frag} [Tb K] {Γ : List (Option Av)} {Ω : AH} {P : Av → AH → Prop} {ta tc : TE} {t : TA} {i j : Nat} {f c' : Addr} {F : NF} {body : Expr} {sp : LSp} {E : XK} {cap : List (V × PyData)}
theorem e_held (e : Γ[i]? = some (some (.fn f [(f, LamO f F body), (F.c, CodeO F.c F.qual)] cap))) (h : AW K t Γ Ω fun as Ω1 => sp (cap.map (·.2)) as Ω1 P) : EW K (tHeld i f F body (cap.map fun c => some c.1) (spL K sp) E t) Γ Ω P := fun F0 σ H Q k q => by
  obtain ⟨v, ev, hv⟩ := k.val e
  cases hv with
  | fn ho hg =>
    have m1 : (f, LamO f F body) ∈ [(f, LamO f F body), (F.c, CodeO F.c F.qual)] := List.mem_cons_self ..
    have m2 : (F.c, CodeO F.c F.qual) ∈ [(f, LamO f F body), (F.c, CodeO F.c F.qual)] := List.mem_cons_of_mem _ (List.mem_cons_self ..)
    refine ⟨ev, Fz_le _ _ (ho _ m1), h (Fz Ω H) σ H _ k.re fun as vs Ω1 H1 h1 k1 v1 => ?_⟩
    exact ⟨Fz_le _ _ (k1.fr _ _ (ho _ m1)), Fz_le _ _ (k1.fr _ _ (ho _ m2)), Fz Ω1 H1, Ω1, as, P, cap, k1.bare.re, v1, rfl, fun c m => (hg c m).same k1.fr, h1, fun a v Ω' H' hp k' hv => q a v Ω' H' hp ((k1.anchor k.fr).back k') hv⟩
/-- g(a, lambda, c): the lambda holds one name of the running frame -/
theorem e_callL {q : Str} {mk : Addr → NF} {sp : CSp} {d : PyData} (hc : ∀ c', (mk c').c = c') (hq : ∀ c', (mk c').qual = q) (e : Γ[j]? = some (some (.dat d)))
    (h : EW K ta Γ Ω fun a Ω1 => EW K tc Γ Ω1 fun c Ω2 => ∀ f c' sv, sp f c' [(sv, d)] [a, .fn f [(f, LamO f (mk c') body), ((mk c').c, CodeO (mk c').c (mk c').qual)] [(sv, d)], c] Ω2 P) :
    EW K (tCallC [j] (spCl K sp) E (tCons ta (tCons (tLamE (Tb.T (K := K)) q mk body) (tCons tc tNil)))) Γ Ω P := fun F σ H Q k r =>
  h F σ H _ k fun a v Ω1 H1 h1 k1 v1 => ⟨k1.tb, fun f c' Hl x1 nn hT1 nf ef ec => by
    have kl := k1.ext x1 hT1
    refine h1 (Fz Ω1 Hl) σ Hl _ kl.re fun c u Ω2 H2 h2 k2 v2 => ?_
    obtain ⟨sv, esv, hsv⟩ := k2.val e
    have nf1 : Ω1.Off f := k1.off nf
    have nc1 : Ω1.Off c' := by
      constructor
      · cases z : Ω1 c' with
        | none => rfl
        | some as =>
          obtain ⟨xs, e1, _⟩ := kl.st c' as z
          rw [ec] at e1
          cases e1
      · cases z : Ω1.o c' with
        | none => rfl
        | some u =>
          obtain ⟨y, e1, e2⟩ := kl.ob c' u z
          rw [ec] at e1
          cases e1
          exact absurd rfl (e2.ncode _ _)
    have g1 : Fz Ω2 H2 f = some (LamO f (mk c') body) := k2.fr _ _ (Fz_to nf1 ef fun q z => by cases z)
    have g2 : Fz Ω2 H2 c' = some (CodeO c' q) := k2.fr _ _ (Fz_to nc1 ec fun q z => by cases z)
    refine ⟨f, c', Fz Ω2 H2, Ω2, _, P, [(sv, d)], k2.bare.re, .cons ((v1.same (Fz_ext x1)).same k2.fr) (.cons (.fn (fun p m => ?_) fun c m => ?_) (.cons v2 .nil)), ?_, h2 f c' sv, fun a v Ω' H' hp k' hv => r a v Ω' H' hp ((k2.anchor kl.fr).back k') hv⟩
    · rw [List.mem_cons, List.mem_singleton] at m
      rcases m with rfl | rfl
      · exact g1
      · show Fz Ω2 H2 (mk c').c = some (CodeO (mk c').c (mk c').qual)
        rw [hc, hq]
        exact g2
    · rw [List.mem_singleton] at m
      subst m
      cases hsv with | dat hd => exact hd
    · show [NdefX.slotAt σ j] = [some sv]
      unfold NdefX.slotAt
      rw [esv]⟩
/-- a list that is to change no more -/
theorem Slots.same' {F : Hp} {Γ : List (Option Av)} {σ : List (Option V)} {p : Addr} {d : PyData} : ∀ {Γ : List (Option Av)} {σ : List (Option V)} (i : Nat), Slots K F Γ σ → Γ[i]? = some (some (.ptr p)) → Dq K F (.ref p) d → Slots K F (Γ.set i (some (.dat d))) σ
  | _, _, _, .nil, e, _ => by simp at e
  | _, _, 0, .no _, e, _ => by simp at e
  | _, _, 0, .yes h g, e, hd => by
    rw [List.getElem?_cons_zero] at e
    cases e
    cases h
    exact .yes (.dat hd) g
  | _, _, i + 1, .no g, e, hd => by
    rw [List.getElem?_cons_succ] at e
    exact .no (Slots.same' (Γ := Γ) (σ := σ) i g e hd)
  | _, _, i + 1, .yes h g, e, hd => by
    rw [List.getElem?_cons_succ] at e
    exact .yes h (Slots.same' (Γ := Γ) (σ := σ) i g e hd)
theorem s_frz {t : TS} {E : EndA} {p : Addr} {ds : List PyData} (i : Nat) (es : Γ[i]? = some (some (.ptr p))) (e : Ω p = some (ds.map .dat)) (h : SW K t (Γ.set i (some (.dat (.list ds)))) (del Ω p) E) : SW K t Γ Ω E := fun F σ H D k e' => by
  obtain ⟨k2, d2⟩ := k.frz e
  exact h F σ H D ⟨k2.fr, k2.st, Slots.same' (Γ := Γ) (σ := σ) i k2.sl es d2, k2.tb, k2.ob⟩ e'
end
end Dat

set_option Elab.async false
set_option linter.all false
set_option maxRecDepth 100000
set_option maxHeartbeats 1000000
namespace Dat
open PySem PySem.Spec PyProof.Rows L2
/-! truths of values; list.pop(0), list.index, enumerate of a list -/
def tTru (K : PySem.W.Frag) (ta : TE) : TT := fun σ H Q => ta σ H fun x H' => ∃ k, TruV K x H' k ∧ Q k H'
section
variable {X : Cx} {K : PySem.W.Frag}
theorem truQ {a : Expr} {ta : TE} (hK : X.K = K) (ha : PE X a ta) (he : ∀ whole, isTrue a X.env whole = (do let v ← whole; standAt a.pos; holding [v] (truthy v)) := by intro _; rfl) : PT X a (tTru K ta) := by
  subst hK
  exact pt_truth ha he
theorem popAtQ {o e : Expr} {to : TE} {t : TA} {apos cpos : Pos} (hK : X.K = K) (ho : PE X o to) (ha : PA X [e] t)
    (hbase : attributeBase o "pop" X.env (eval o X.env) = eval o X.env := by rfl)
    (hfew : ((backTo cpos (starEach [e] X.env)).all (fun x => !x.1) && (backToKw cpos (keywordEach [] X.env)).all (fun x => x.1.isSome)
      && decide ([e].length + ([] : List Keyword).length + (if ([] : List Keyword).isEmpty then 0 else 1) < 30)) = true := by rfl)
    (hline : (apos.endLine == cpos.line) = true := by rfl) (hs : starEach [e] X.env = (false, eval e X.env) :: starEach [] X.env := by rfl) (hplain : (backTo cpos (starEach [] X.env)).any (·.1) = false := by rfl) :
    PE X (.Call (.Attribute o "pop" apos) [e] [] cpos) (tBM K "list" rPopAt to t) := by
  subst hK
  exact pe_bm PySem.F.plainAttrs_list PySem.F.slot_list_pop PySem.F.type_list_pop mt_popAt ho ha hbase hfew hline hs hplain
theorem indexQ {o e : Expr} {to : TE} {t : TA} {apos cpos : Pos} (hK : X.K = K) (ho : PE X o to) (ha : PA X [e] t)
    (hbase : attributeBase o "index" X.env (eval o X.env) = eval o X.env := by rfl)
    (hfew : ((backTo cpos (starEach [e] X.env)).all (fun x => !x.1) && (backToKw cpos (keywordEach [] X.env)).all (fun x => x.1.isSome)
      && decide ([e].length + ([] : List Keyword).length + (if ([] : List Keyword).isEmpty then 0 else 1) < 30)) = true := by rfl)
    (hline : (apos.endLine == cpos.line) = true := by rfl) (hs : starEach [e] X.env = (false, eval e X.env) :: starEach [] X.env := by rfl) (hplain : (backTo cpos (starEach [] X.env)).any (·.1) = false := by rfl) :
    PE X (.Call (.Attribute o "index" apos) [e] [] cpos) (tBM K "list" (rIndex K) to t) := by
  subst hK
  exact pe_bm PySem.F.plainAttrs_list PySem.F.slot_list_index PySem.F.type_list_index mt_index ho ha hbase hfew hline hs hplain
end
section
variable {K : PySem.W.Frag} [Tb K] {Γ : List (Option Av)} {Ω : AH} {ta : TE} {tl : TA} {ds es fs : List PyData}
theorem DqAll.emp {H : Hp} {vs : List V} (g : DqAll K H vs ds) : (!ds.isEmpty) = !vs.isEmpty := by
  cases g <;> rfl
theorem t_truT {P : Bool → AH → Prop} (h : EW K ta Γ Ω fun a Ω1 => ∃ ds, a = .dat (.tuple ds) ∧ P (!ds.isEmpty) Ω1) : TW K (tTru K ta) Γ Ω P := fun F σ H Q k q =>
  h F σ H _ k fun a v Ω' H' ⟨ds, e, hp⟩ k' hv => by
    subst e
    cases hv with
    | dat hv =>
      cases hv with
      | tup hs g =>
        refine ⟨_, .inr (.inl ⟨_, sqT_same Fz_le hs, rfl⟩), ?_⟩
        rw [← g.emp]
        exact q _ Ω' H' hp k'
theorem e_pop0 {P : Av → AH → Prop} (h : EW K ta Γ Ω fun a Ω1 => ∃ p, a = .ptr p ∧ (∃ bs, Ω1 p = some bs) ∧ AW K tl Γ Ω1 fun cs Ω2 => ∃ b as, cs = [.dat (.int 0)] ∧ Ω2 p = some (b :: as) ∧ P b (put Ω2 p as)) : EW K (tBM K "list" rPopAt ta tl) Γ Ω P := fun F σ H Q k q =>
  h F σ H _ k fun a v Ω1 H1 ⟨p, ea, ⟨bs, eb⟩, h1⟩ k1 v1 => by
    subst ea
    cases v1
    obtain ⟨zs, hz, _⟩ := k1.st p bs eb
    refine ⟨.inl ⟨rfl, _, SqL.of hz⟩, h1 F σ H1 _ k1 fun cs vs Ω2 H2 ⟨b, as, ec, e2, hp⟩ k2 v2 => ?_⟩
    subst ec
    cases v2 with | cons vb v2 =>
      cases v2
      cases vb with | dat vb =>
      cases vb
      obtain ⟨xs, hx, g⟩ := k2.st p _ e2
      cases g with | cons hb g =>
      rename_i y ys
      refine ⟨p, _, 0, 0, y, rfl, rfl, hx, by decide, by decide, ?_, rfl, ?_⟩
      · simp [seqIndex?]
      · have k3 := k2.put e2 g
        have e3 : Fz (put Ω2 p as) (upd H2 p (.lst ys)) = Fz Ω2 H2 := Fz_put e2
        exact q _ _ _ _ hp k3 (by show VOk K (Fz _ (upd H2 p (.lst ys))) b y; rw [e3]; exact hb)
theorem e_idx {P : Av → AH → Prop} (h : EW K ta Γ Ω fun a Ω1 => ∃ ds, a = .dat (.list ds) ∧ ds.all canFlat = true ∧ AW K tl Γ Ω1 fun cs Ω2 => ∃ d e j, cs = [.dat d] ∧ canFlat d = true ∧ ds[j]? = some e ∧ PyData.eqv e d = true ∧ (∀ m e', m < j → ds[m]? = some e' → PyData.eqv e' d = false) ∧ P (.dat (.int (j : Nat))) Ω2) : EW K (tBM K "list" (rIndex K) ta tl) Γ Ω P := fun F σ H Q k q =>
  h F σ H _ k fun a v Ω1 H1 ⟨ds, ea, ef, h1⟩ k1 v1 => by
    subst ea
    cases v1 with | dat v1 =>
    cases v1 with | lst hs g =>
    refine ⟨.inl ⟨rfl, _, SqL.of (Fz_le _ _ hs)⟩, h1 (Fz Ω1 H1) σ H1 _ k1.re fun cs vs Ω2 H2 ⟨d, e, j, ec, fd, ej, ev, no, hp⟩ k2 v2 => ?_⟩
    subst ec
    cases v2 with | cons vb v2 =>
      cases v2
      cases vb with | dat vb =>
      have g2 := g.same k2.fr
      obtain ⟨z, ez, hz⟩ := g2.get ej
      have fe : canFlat e = true := List.all_eq_true.mp ef e (List.mem_of_getElem? ej)
      refine ⟨_, _, _, j, z, rfl, rfl, SqL.of (Fz_le _ _ (k2.fr _ _ hs)), dq_flat vb fd, dqAll_flat g2 ef, ez, by rw [dq_eqv hz vb fe fd]; exact ev, fun m z' hm ez' => ?_, q _ _ _ _ hp (k2.anchor k1.fr) (.dat (.int _))⟩
      obtain ⟨e', ee, he⟩ := g2.getV ez'
      rw [dq_eqv he vb (List.all_eq_true.mp ef e' (List.mem_of_getElem? ee)) fd]
      exact no m e' hm ee
theorem walk_enumL {F : Hp} {a : Addr} {xs : List V} (h : F a = some (.lst xs)) (g : DqAll K F xs ds) : WalkA K F (L2.Ite K a) (enumA ds) := by
  constructor
  · intro Ω H k i b e
    obtain ⟨hi, rfl⟩ := rng_at e
    obtain ⟨v, ev, hv⟩ := getD_dq g hi
    refine ⟨⟨xs, v, SqL.of (k.fr.trans Fz_le _ _ h), ev⟩, fun x H' hy => ?_⟩
    obtain ⟨T, x2, rfl, nT, rfl, f⟩ := hy
    have := f xs (SqL.of (k.fr.trans Fz_le _ _ h))
    rw [ev] at this
    cases this
    exact ⟨same_new nT, .dat (tup_new k nT (.cons (.int _) (.cons (hv.same k.fr) .nil)))⟩
  · intro Ω H k
    exact ⟨xs, SqL.of (k.fr.trans Fz_le _ _ h), by rw [g.length]; simp [enumA]⟩
theorem i_enumL {P : List Av → AH → Prop} (h : AW K tl Γ Ω fun as Ω1 => ∃ ds, as = [.dat (.list ds)] ∧ P (enumA ds) Ω1) : IW K (iEnum K tl) Γ Ω P := fun F σ H R k q =>
  h F σ H _ k fun as vs Ω1 H1 ⟨ds, e, hp⟩ k1 v1 => by
    subst e
    cases v1 with | cons v1 v2 =>
      cases v2
      cases v1 with | dat v1 =>
        cases v1 with | lst hs g =>
          exact ⟨_, _, rfl, SqL.of (Fz_le _ _ hs), q _ _ _ _ hp k1 (walk_enumL hs g)⟩
theorem enumA_at {ds : List PyData} {i : Nat} {a : Av} (h : (enumA ds)[i]? = some a) : ∃ d, ds[i]? = some d ∧ a = .dat (.tuple [.int (i : Nat), d]) := by
  obtain ⟨hi, rfl⟩ := rng_at h
  exact ⟨ds[i], List.getElem?_eq_getElem hi, by rw [List.getD_eq_getElem?_getD, List.getElem?_eq_getElem hi]; rfl⟩
theorem enumA_len {ds : List PyData} : (enumA ds).length = ds.length := by
  unfold enumA
  rw [List.length_map, List.length_range]
end
end Dat

set_option Elab.async false
set_option linter.all false
set_option maxRecDepth 100000
set_option maxHeartbeats 1000000
namespace Dat
open PySem PySem.Spec PyProof.Rows L2
theorem pgLQ {X : Cx} {K : PySem.W.Frag} {es : List Expr} {k : Nat} {t : TGs} {n : Nat} {pos : Pos} (hK : X.K = K) (hc : X.calm = true) (h : PGs X es t)
    (hn : (assignEach es X.env).length = n := by rfl) (hst : (assignEach es X.env).findIdx? (·.1) = none := by rfl) : PG X (.Tuple es k pos) (gLst K n t) := by subst hK; exact pg_lst hc h hn hst
abbrev IsI (i : Int) (Ω : AH) : Av → AH → Prop := fun a Ω' => a = .dat (.int i) ∧ Ω' = Ω
section
variable {K : PySem.W.Frag} [Tb K] {Γ : List (Option Av)} {Ω : AH} {gs : TGs} {ds : List PyData} {ta tb tc : TE}
theorem g_lst {n : Nat} {P : List (Option Av) → AH → Prop} (l : ds.length = n) (h : GsW K gs (ds.map .dat) Γ Ω P) : GW K (gLst K n gs) (.dat (.list ds)) Γ Ω P := fun F σ H v Q k hv q => by
  cases hv with | dat hv => cases hv with | lst hs g => exact ⟨_, _, rfl, SqL.of (Fz_le _ _ hs), g.length.trans l, h F σ H _ Q k (.ofDats g) q⟩
theorem e_chainB {lo x hi : Int} (h1 : EW K ta Γ Ω (IsI lo Ω)) (h2 : EW K tb Γ Ω (IsI x Ω)) (h3 : EW K tc Γ Ω (IsI hi Ω)) :
    EW K (tChain (rI0 fun i j => .bl (decide (i ≤ j))) (rI0 fun i j => .bl (decide (i ≤ j))) ta tb tc) Γ Ω (IsB (decide (lo ≤ x) && decide (x ≤ hi)) Ω) :=
  e_chain (h1.mono fun a Ω1 ⟨e1, o1⟩ => by
    subst e1 o1
    exact h2.mono fun b Ω2 ⟨e2, o2⟩ => by
      subst e2 o2
      refine r_I0b ⟨_, rfl, fun z => ?_, fun z => ?_⟩
      · exact h3.mono fun d Ω3 ⟨e3, o3⟩ => by
          subst e3 o3
          exact r_I0b ⟨by rw [z, Bool.true_and], rfl⟩
      · exact ⟨by rw [z, Bool.false_and], rfl⟩)
end
section
variable {K : PySem.W.Frag} [Tb K] {Γ : List (Option Av)} {Ω : AH} {tl : TA} {E : EndA}
theorem s_par3 {i j m : Nat} (h : AW K tl Γ Ω fun as Ω1 => ∃ a b c, as = [a, b, c] ∧ E.nx (((Γ.set i (some a)).set j (some b)).set m (some c)) Ω1) : SW K (tPar3 i j m tl) Γ Ω E := fun F σ H D k e =>
  h F σ H _ k fun as vs Ω1 H1 ⟨a, b, c, ea, hp⟩ k1 v1 => by
    subst ea
    cases v1 with | cons va v1 => cases v1 with | cons vb v1 => cases v1 with | cons vc v1 =>
      cases v1
      exact ⟨_, _, _, rfl, e.nx _ _ _ _ hp (((k1.set va i).set vb j).set vc m)⟩
end
theorem eqv_nil : ∀ {ds : List PyData}, PyData.eqv (.list ds) (.list []) = ds.isEmpty
  | [] => by simp [PyData.eqv, PyData.eqvAll]
  | _ :: _ => by simp [PyData.eqv, PyData.eqvAll]
structure Lay (d : PyData) (k : Nat) : Prop where
  c : d.canLay0 = true
  k : d.depth ≤ k
theorem layAll : ∀ {ds : List PyData} {k : Nat}, (∀ d ∈ ds, Lay d k) → PyData.canLayAll0 ds = true ∧ PyData.depthAll ds ≤ k
  | [], _, _ => ⟨by simp [PyData.canLayAll0], by simp [PyData.depthAll]⟩
  | d :: r, k, h => by
    have h1 := h d List.mem_cons_self
    have h2 := layAll (ds := r) (k := k) fun y m => h y (List.mem_cons_of_mem _ m)
    refine ⟨by simp [PyData.canLayAll0, h1.c, h2.1], ?_⟩
    simp only [PyData.depthAll]
    exact Nat.max_le.mpr ⟨h1.k, h2.2⟩
theorem Lay.tup {ds : List PyData} {k : Nat} (h : ∀ d ∈ ds, Lay d k) : Lay (.tuple ds) (k + 1) := by
  obtain ⟨a, b⟩ := layAll h
  exact ⟨by simp only [PyData.canLay0, a], by simp only [PyData.depth]; omega⟩
theorem Lay.lst {ds : List PyData} {k : Nat} (h : ∀ d ∈ ds, Lay d k) : Lay (.list ds) (k + 1) := by
  obtain ⟨a, b⟩ := layAll h
  exact ⟨by simp only [PyData.canLay0, a], by simp only [PyData.depth]; omega⟩
theorem Lay.int (i : Int) : Lay (.int i) 0 := ⟨by simp [PyData.canLay0], by simp [PyData.depth]⟩
theorem Lay.mono {d : PyData} {k j : Nat} (h : Lay d k) (l : k ≤ j) : Lay d j := ⟨h.c, Nat.le_trans h.k l⟩
theorem Lay.shaped {d : PyData} {k : Nat} (h : Lay d k) (l : k ≤ 64) : SeqAt.shaped d = true := by
  rw [SeqAt.shaped, Bool.and_eq_true, decide_eq_true_eq]
  exact ⟨h.c, Nat.le_trans h.k l⟩
theorem lay_map {α : Type} {f : α → PyData} {xs : List α} {k : Nat} (h : ∀ x ∈ xs, Lay (f x) k) : ∀ d ∈ xs.map f, Lay d k := fun d hd => by
  obtain ⟨x, hx, rfl⟩ := List.mem_map.mp hd
  exact h x hx
theorem Lay.str {x : Str} (h : PyData.strOk x = true) : Lay (.str x) 0 := ⟨by simp [PyData.canLay0, h], by simp [PyData.depth]⟩
theorem Lay.none : Lay .none 0 := ⟨by simp [PyData.canLay0], by simp [PyData.depth]⟩
theorem lay_ints (ns : List Int) : ∀ d ∈ ns.map PyData.int, Lay d 0 := lay_map fun i _ => Lay.int i
theorem eqv_lay {d : PyData} {k : Nat} (h : Lay d k) : PyData.eqv d d = true := SeqAt.eqv_refl _ h.c
theorem sh_ints (ns : List Int) : SeqAt.shaped (.list (ns.map PyData.int)) = true := (Lay.lst (lay_ints ns)).shaped (by decide)
end Dat

set_option Elab.async false
set_option linter.all false
set_option maxRecDepth 100000
set_option maxHeartbeats 2000000
/-! zip of a tuple and a list -/
namespace Enz
open PySem PySem.Spec PyProof.Rows L2
def ItzTL (K : PySem.W.Frag) (a b : Addr) : It :=
  ⟨fun i H => ∃ (xs ys : List V) (x y : V), SqT K H a xs ∧ SqL K H b ys ∧ xs[i]? = some x ∧ ys[i]? = some y,
    fun i H v H' => ∃ T x y, v = .ref T ∧ H T = none ∧ H' = upd H T (.tup [x, y]) ∧ (∀ xs, SqT K H a xs → xs[i]? = some x) ∧ ∀ ys, SqL K H b ys → ys[i]? = some y,
    fun i H => ∃ xs ys : List V, SqT K H a xs ∧ SqL K H b ys ∧ xs.length = i ∧ ys.length = i⟩
theorem turn_zipTL {P : Program} {w : World} {K : PySem.W.Frag} {elts : List Expr} {kk : Nat} {tpos : Pos} {a b z TI TO i1 i2 : Addr} (D : ZipSep2 z TI TO i1 i2 [i1, a] [i2, b]) (na : a ≠ i1) (nb : b ≠ i2) :
    Turn P w K (.Tuple elts kk tpos) (ItzTL K a b) [z, TI, TO, i1, i2] z (fun i h => IsZip h z TI TO .none ∧ IsTupOf2 h TI (.ref i1) (.ref i2) ∧ (∃ x y, IsTupOf2 h TO x y) ∧ h.IsTupleIter i1 a i ∧ h.IsListIter i2 b i) where
  mem := by simp
  obj := fun i h st m hm => by
    obtain ⟨hz, hTI, ⟨x, y, hTO⟩, ⟨o1, e1, _, d1⟩, ⟨o2, e2, _, d2⟩⟩ := st
    rcases (by simpa using hm : m = z ∨ m = TI ∨ m = TO ∨ m = i1 ∨ m = i2) with q | q | q | q | q
    · rw [q]; exact ⟨_, hz, fun v q => nomatch q⟩
    · rw [q]; exact ⟨_, hTI, fun v q => nomatch q⟩
    · rw [q]; exact ⟨_, hTO, fun v q => nomatch q⟩
    · rw [q]; exact ⟨o1, e1, fun v q => by rw [d1] at q; cases q⟩
    · rw [q]; exact ⟨o2, e2, fun v q => by rw [d2] at q; cases q⟩
  keep := fun i h h' st k => by
    obtain ⟨hz, hTI, ⟨x, y, hTO⟩, h1, h2⟩ := st
    exact ⟨k z (by simp) _ hz, k TI (by simp) _ hTI, ⟨x, y, k TO (by simp) _ hTO⟩, h1.at fun o q => k i1 (by simp) o q, h2.at fun o q => k i2 (by simp) o q⟩
  item := by
    intro X hP hw hK hc i pins s σ H E I hf st hg
    subst hP hw hK
    obtain ⟨hz, hTI, ⟨x0, y0, hTO⟩, h1, h2⟩ := st
    obtain ⟨xs, ys, x, y, hqx, hqy, hx, hy⟩ := hg
    obtain ⟨its, rv, p1, _⟩ := I.tuple hqx; obtain ⟨jts, rw2, p2, _⟩ := I.list hqy
    obtain ⟨u1, hu1, ru1⟩ := rv.get hx; obtain ⟨u2, hu2, ru2⟩ := rw2.get hy
    have l1 : i < its.length := (List.getElem?_eq_some_iff.mp hu1).1; have l2 : i < jts.length := (List.getElem?_eq_some_iff.mp hu2).1
    have nh : X.A.in1.handled = none := by simp [I.ok.hd hc]
    have dw1 := Draws.tuple (prog := X.prog) (w := X.w) (A := X.A.in1) nh i1 a na its.toArray
    have dw2 := Draws.list (prog := X.prog) (w := X.w) (A := X.A.in1) nh i2 b nb jts.toArray
    have zl : z < s.heap.objs.size := Heap.lt_size hz
    refine wpAny_pyNext_zipD2_item D dw1 dw2 hz hTI hTO ⟨h1, p1⟩ ⟨h2, p2.isList⟩ (by simpa using l1) (by simpa using l2) fun v1 v2 g tk q1 q2 z' TO' s1 s2 hT sz k => ?_
    have e1 := pick hu1 q1; have e2 := pick hu2 q2
    subst e1; subst e2
    refine ⟨_, rfl, wpAny_letOwnedTupleGo_zip (s := { s with heap := g, toks := tk }) z' fun g2 z'' sb => ?_⟩
    have hT2 : g2.get? s.heap.objs.size = some { cls := .type "tuple", data := .seq #[v1, v2] } := (sb.2 _ (Nat.ne_of_gt zl)).trans hT
    have new : ObjOk X.prog X.w (upd H s.heap.objs.size (.tup [x, y])) g2 s.heap.objs.size (.tup [x, y]) :=
      ⟨by show 2 ≤ sizeLine; decide, [v1, v2], .cons ru1 (.cons ru2 .nil), ⟨_, hT2, rfl, _, rfl⟩⟩
    have I2 : Inv X pins σ (upd H s.heap.objs.size (.tup [x, y])) { s with heap := g2, toks := tk } :=
      I.turnedNew (t' := tk) (ch := [z, TI, TO, i1, i2]) (fun m o hb q => (sb.2 m (fun q' => hb (by simp [q']))).trans (k m o (fun q' => hb (by simp [q'])) (fun q' => hb (by simp [q'])) (fun q' => hb (by simp [q'])) (fun q' => hb (by simp [q'])) q)) hf (Nat.le_refl _) new
    refine ⟨.ref s.heap.objs.size, _, I2, rfl, ⟨_, x, y, rfl, I.hok.fresh (Nat.le_refl _), rfl, fun l hl => by rw [I.tuple_inj hl hqx]; exact hx, fun l hl => by rw [I.list_inj hl hqy]; exact hy⟩, ⟨z'', ?_, ⟨v1, v2, ?_⟩, ?_, ?_⟩, fun m hm => ?_⟩
    · exact (sb.2 _ D.TIz).trans (k _ _ D.TIz D.TITO D.TIi1 D.TIi2 hTI)
    · exact (sb.2 _ D.TOz).trans TO'
    · exact s1.1.at fun o q => (sb.2 _ D.zi1.symm).trans q
    · exact s2.1.at fun o q => (sb.2 _ D.zi2.symm).trans q
    · have lm : m < s.heap.objs.size := by
        rcases (by simpa using hm : m = z ∨ m = TI ∨ m = TO ∨ m = i1 ∨ m = i2) with q | q | q | q | q
        · rw [q]; exact zl
        · rw [q]; exact Heap.lt_size hTI
        · rw [q]; exact Heap.lt_size hTO
        · rw [q]; obtain ⟨_, w1, _⟩ := h1; exact Heap.lt_size w1
        · rw [q]; obtain ⟨_, w1, _⟩ := h2; exact Heap.lt_size w1
      rw [upd_ne (Nat.ne_of_lt lm)]; exact (hf m hm).1
  done := by
    intro X hP hw hK hc i pins s σ H E I hf st hg
    subst hP hw hK
    obtain ⟨hz, hTI, ⟨x0, y0, hTO⟩, h1, h2⟩ := st
    obtain ⟨xs, ys, hqx, hqy, ln1, ln2⟩ := hg
    obtain ⟨its, rv, p1, _⟩ := I.tuple hqx; obtain ⟨jts, rw2, p2, _⟩ := I.list hqy
    have m1 := rv.length; have m2 := rw2.length
    have nh : X.A.in1.handled = none := by simp [I.ok.hd hc]
    have dw1 := Draws.tuple (prog := X.prog) (w := X.w) (A := X.A.in1) nh i1 a na its.toArray
    have dw2 := Draws.list (prog := X.prog) (w := X.w) (A := X.A.in1) nh i2 b nb jts.toArray
    exact wpAny_pyNext_zipD2_end D dw1 dw2 hz hTI hTO ⟨h1, p1⟩ ⟨h2, p2.isList⟩ (by simp; omega) (by simp; omega) (.inl (by simp; omega)) fun g tk k => ⟨rfl, I.turnedL (t' := tk) (ch := [z, TI, TO, i1, i2]) (fun m o hb q =>
      k m o (fun q' => hb (by simp [q'])) (fun q' => hb (by simp [q'])) (fun q' => hb (by simp [q'])) (fun q' => hb (by simp [q'])) q) hf⟩
  self := fun A i s Q E st h => wpAny_pyIter_zip st.1 h
def iZipTL (K : PySem.W.Frag) (ta : TA) : TI := fun σ H R => ta σ H fun vs H1 => ∃ a b xs ys, vs = [.ref a, .ref b] ∧ SqT K H1 a xs ∧ SqL K H1 b ys ∧ R (ItzTL K a b) H1
theorem pi_zipTL {X : Cx} {e e2 : Expr} {ta : TA} {p pos tpos : Pos} {elts : List Expr} {kk : Nat} (hg : Gl X "zip") (hm : X.mg "zip" = none) (ha : PA X [e, e2] ta)
    (hs : starEach [e, e2] X.env = (false, eval e X.env) :: starEach [e2] X.env := by rfl) (hpl : (backTo pos (starEach [e2] X.env)).any (·.1) = false := by rfl) :
    PI X (.Tuple elts kk tpos) (.Call (.Name "zip" p) [e, e2] [] pos) (iZipTL X.K ta) := by
  refine ⟨fun pins s σ H R I h => Call_ (ld_blt I hg hm PyProof.Rows.boot_zip (PyProof.Rows.callWith_type1 (thn (ha.run pos pins s σ H _ I h) fun us s1 ⟨vs, H1, I1, r1, q1⟩ => ?_) hs hpl))⟩
  obtain ⟨a, b, xs, ys, ex, hqa, hqb, q⟩ := q1
  subst ex
  cases r1 with | cons ra r1 => cases r1 with | cons rb r1 =>
    cases r1; cases ra; cases rb
    obtain ⟨its, _, p1, _⟩ := I1.tuple hqa; obtain ⟨jts, _, p2, _⟩ := I1.list hqb
    have la : a < s1.heap.objs.size := by obtain ⟨_, y, _⟩ := p1; exact Heap.lt_size y
    have lb : b < s1.heap.objs.size := by obtain ⟨_, y, _⟩ := p2.isList; exact Heap.lt_size y
    refine zip_begins2 (begins_tuple a its.toArray) (begins_list b jts.toArray) p1 p2.isList fun g hz hTI hTO g1 g2 _ k => wpAny_pyIter_zip hz ?_
    have I2 : Inv X pins σ H1 { s1 with heap := g } := I1.kept (t' := s1.toks) k
    have sep : ZipSep2 (s1.heap.objs.size + 4) (s1.heap.objs.size + 2) (s1.heap.objs.size + 3) s1.heap.objs.size (s1.heap.objs.size + 1) [s1.heap.objs.size, a] [s1.heap.objs.size + 1, b] :=
      zip_sep2 (fp1 := [a]) (fp2 := [b]) (by simpa using la) (by simpa using lb)
    refine ⟨s1.heap.objs.size + 4, [s1.heap.objs.size + 4, s1.heap.objs.size + 2, s1.heap.objs.size + 3, s1.heap.objs.size, s1.heap.objs.size + 1], _, _, H1, rfl, I2, turn_zipTL sep (Nat.ne_of_lt la) (Nat.ne_of_lt (Nat.lt_succ_of_lt lb)), ⟨hz, hTI, ⟨_, _, hTO⟩, ⟨_, g1, rfl, rfl⟩, ⟨_, g2, rfl, rfl⟩⟩, fun m hm => ?_, q⟩
    have lm : s1.heap.objs.size ≤ m := by
      rcases (by simpa using hm : m = s1.heap.objs.size + 4 ∨ m = s1.heap.objs.size + 2 ∨ m = s1.heap.objs.size + 3 ∨ m = s1.heap.objs.size ∨ m = s1.heap.objs.size + 1) with z | z | z | z | z
      all_goals (rw [z]; first | exact Nat.le_add_right _ _ | exact Nat.le_refl _)
    exact I1.fpOk lm (I1.hok.fresh lm)
end Enz
namespace Dat
open PySem PySem.Spec PyProof.Rows L2
theorem zipTLQ {X : Cx} {K : PySem.W.Frag} {e e2 : Expr} {ta : TA} {p pos tpos : Pos} {elts : List Expr} {kk : Nat} (hK : X.K = K) (hg : Gl X "zip") (hm : X.mg "zip" = none) (ha : PA X [e, e2] ta)
    (hs : starEach [e, e2] X.env = (false, eval e X.env) :: starEach [e2] X.env := by rfl) (hpl : (backTo pos (starEach [e2] X.env)).any (·.1) = false := by rfl) :
    PI X (.Tuple elts kk tpos) (.Call (.Name "zip" p) [e, e2] [] pos) (Enz.iZipTL K ta) := by
  subst hK
  exact Enz.pi_zipTL hg hm ha hs hpl
section
variable {K : PySem.W.Frag} [Tb K] {Γ : List (Option Av)} {Ω : AH} {tl : TA} {ds es : List PyData}
theorem walk_zipTL {F : Hp} {a b : Addr} {xs ys : List V} (h : SqT K F a xs) (g : DqAll K F xs ds) (h2 : F b = some (.lst ys)) (g2 : DqAll K F ys es) (hl : ds.length = es.length) : WalkA K F (Enz.ItzTL K a b) (zipA ds es) := by
  constructor
  · intro Ω H k i c e
    obtain ⟨hi, rfl⟩ := rng_at e
    obtain ⟨v, ev, hv⟩ := getD_dq g hi
    obtain ⟨u, eu, hu⟩ := getD_dq g2 (i := i) (by omega)
    refine ⟨⟨xs, ys, v, u, sqT_same (k.fr.trans Fz_le) h, SqL.of (k.fr.trans Fz_le _ _ h2), ev, eu⟩, fun x H' hy => ?_⟩
    obtain ⟨T, x2, y2, rfl, nT, rfl, f, f2⟩ := hy
    have t1 := f xs (sqT_same (k.fr.trans Fz_le) h)
    have t2 := f2 ys (SqL.of (k.fr.trans Fz_le _ _ h2))
    rw [ev] at t1
    rw [eu] at t2
    cases t1
    cases t2
    exact ⟨same_new nT, .dat (tup_new k nT (.cons (hv.same k.fr) (.cons (hu.same k.fr) .nil)))⟩
  · intro Ω H k
    have := g.length
    have := g2.length
    refine ⟨xs, ys, sqT_same (k.fr.trans Fz_le) h, SqL.of (k.fr.trans Fz_le _ _ h2), ?_, ?_⟩ <;> (simp [zipA]; omega)
theorem i_zipTL {P : List Av → AH → Prop} (h : AW K tl Γ Ω fun as Ω1 => ∃ ds es, as = [.dat (.tuple ds), .dat (.list es)] ∧ ds.length = es.length ∧ P (zipA ds es) Ω1) : IW K (Enz.iZipTL K tl) Γ Ω P := fun F σ H R k q =>
  h F σ H _ k fun as vs Ω1 H1 ⟨ds, es, e, hl, hp⟩ k1 v1 => by
    subst e
    cases v1 with | cons va v1 => cases v1 with | cons vb v1 => cases v1; cases va with | dat va => cases vb with | dat vb => cases va with | tup hs g => cases vb with | lst hs2 g2 =>
      exact ⟨_, _, _, _, rfl, sqT_same Fz_le hs, SqL.of (Fz_le _ _ hs2), q _ _ _ _ hp k1 (walk_zipTL hs g hs2 g2 hl)⟩
end
end Dat

set_option Elab.async false
set_option linter.all false
set_option maxRecDepth 100000
set_option maxHeartbeats 2000000
/-! a list that may change, shown; a chain of three comparisons -/
namespace Dat
open PySem PySem.Spec PyProof.Rows L2
theorem c_reprP {K : PySem.W.Frag} [Tb K] {Ω : AH} {P : Av → AH → Prop} {p : Addr} {ds : List PyData} (o : Ω p = some (ds.map .dat)) (s : Shown (.list ds)) (h : P (.dat (.str (PyData.list ds).shown)) Ω) : RCW K (rReprQ K) [.ptr p] Ω P := fun F H xs Q k hx q => by
  cases hx with | cons hx g =>
    cases g
    cases hx
    exact ⟨_, .list ds, rfl, k.listAt o, s, q _ _ _ _ h k (.dat (.str _))⟩
def tChain3 (r r' r2 : R2) (ta tb tc td : TE) : TE := fun σ H Q => ta σ H fun x H1 => tb σ H1 fun y H2 => r x y H2 fun z H3 => ∃ k, z = .bl k ∧
  (if k = true then tc σ H3 fun w' H4 => r' y w' H4 fun z' H5 => ∃ k', z' = .bl k' ∧ (if k' = true then td σ H5 fun u H6 => r2 w' u H6 Q else Q (.bl false) H5) else Q (.bl false) H3)
section
variable {X : Cx} {a b c d : Expr} {ta tb tc td : TE} {pos : Pos}
theorem pe_chain3 {op op' op2 : CmpOp} {r r' r2 : R2} (ho : OpR X (compareOp op) r) (ho' : OpR X (compareOp op') r') (ho2 : OpR X (compareOp op2) r2) (ha : PE X a ta) (hb : PE X b tb) (hc : PE X c tc) (hd : PE X d td)
    (hm : lastMarks [op, op', op2] [b, c, d] = false := by with_unfolding_all rfl) : PE X (.Compare a [op, op', op2] [b, c, d] pos) (tChain3 r r' r2 ta tb tc td) := by
  refine ⟨fun pins s σ H Q I h => ?_⟩
  refine Compare_chain (thn (ha.run pins s σ H _ I h) fun v s1 ⟨x, H1, I1, r1, q1⟩ => chain_link (thn (hb.run pins s1 σ H1 _ I1 q1) fun u s2 ⟨y, H2, I2, r2, q2⟩ =>
    thn (ho pins s2 σ H2 x y v u _ I2 r1 r2 q2) fun d s3 ⟨z, H3, I3, r3, k, e, q3⟩ => ?_)) hm
  subst e
  cases r3
  refine wpAny_truthy_bool ?_
  cases k with
  | false => exact ite_ff ⟨.bl false, H3, I3, rfl, q3⟩
  | true =>
    refine ite_tt (chain_link (thn (hc.run pins s3 σ H3 _ I3 q3) fun w' s4 ⟨z', H4, I4, r4, q4⟩ => thn (ho' pins s4 σ H4 y z' u w' _ I4 r2 r4 q4) fun d' s5 ⟨z5, H5, I5, r5, k', e', q5⟩ => ?_))
    subst e'
    cases r5
    refine wpAny_truthy_bool ?_
    cases k' with
    | false => exact ite_ff ⟨.bl false, H5, I5, rfl, q5⟩
    | true => exact ite_tt (chain_last (thn (hd.run pins s5 σ H5 _ I5 q5) fun w6 s6 ⟨z6, H6, I6, r6, q6⟩ => ho2 pins s6 σ H6 z' z6 w' w6 Q I6 r4 r6 q6))
end
section
variable {K : PySem.W.Frag} [Tb K] {Γ : List (Option Av)} {Ω : AH} {P : Av → AH → Prop} {ta tb tc td : TE} {r r' r2 : R2}
theorem e_chain3 (h : EW K ta Γ Ω fun a Ω1 => EW K tb Γ Ω1 fun b Ω2 => R2W K r a b Ω2 fun c Ω3 => ∃ z, c = .dat (.bool z) ∧ (z = true → EW K tc Γ Ω3 fun d Ω4 => R2W K r' b d Ω4 fun c5 Ω5 => ∃ z', c5 = .dat (.bool z') ∧
    (z' = true → EW K td Γ Ω5 fun e Ω6 => R2W K r2 d e Ω6 P) ∧ (z' = false → P (.dat (.bool false)) Ω5)) ∧ (z = false → P (.dat (.bool false)) Ω3)) : EW K (tChain3 r r' r2 ta tb tc td) Γ Ω P := fun F σ H Q k q =>
  h F σ H _ k fun a v Ω1 H1 h1 k1 v1 => h1 (Fz Ω1 H1) σ H1 _ k1.re fun b w Ω2 H2 h2 k2 v2 =>
    h2 (Fz Ω2 H2) H2 v w _ k2.bare.re (v1.same k2.fr) v2 fun c u Ω3 H3 ⟨z, ec, g1, g2⟩ k3 v3 => by
      subst ec
      have k3' := (k2.anchor k1.fr).back k3
      cases v3 with
      | dat v3 =>
        cases v3
        refine ⟨z, rfl, ?_⟩
        cases z with
        | true =>
          refine g1 rfl (Fz Ω3 H3) σ H3 _ k3'.re fun d x Ω4 H4 h4 k4 v4 =>
            h4 (Fz Ω4 H4) H4 w x _ k4.bare.re ((v2.same k3.fr).same k4.fr) v4 fun c5 u5 Ω5 H5 ⟨z', e5, g3, g4⟩ k5 v5 => ?_
          subst e5
          have k5' := (k4.anchor k3'.fr).back k5
          cases v5 with
          | dat v5 =>
            cases v5
            refine ⟨z', rfl, ?_⟩
            cases z' with
            | true =>
              exact g3 rfl (Fz Ω5 H5) σ H5 _ k5'.re fun e y Ω6 H6 h6 k6 v6 =>
                h6 (Fz Ω6 H6) H6 x y Q k6.bare.re ((v4.same k5.fr).same k6.fr) v6 fun f y' Ω7 H7 hp k7 v7 => q f y' Ω7 H7 hp ((k6.anchor k5'.fr).back k7) v7
            | false => exact q _ _ _ _ (g4 rfl) k5' (.dat (.bl false))
        | false => exact q _ _ _ _ (g2 rfl) k3' (.dat (.bl false))
end
end Dat

set_option Elab.async false
set_option linter.all false
set_option maxRecDepth 100000
set_option maxHeartbeats 2000000
/-! zip of a list and a tuple; of a list, a tuple and a list -/
namespace Enz
open PySem PySem.Spec PyProof.Rows L2
def Itz3L (K : PySem.W.Frag) (a b c : Addr) : It :=
  ⟨fun i H => ∃ (xs ys zs : List V) (x y z : V), SqL K H a xs ∧ SqT K H b ys ∧ SqL K H c zs ∧ xs[i]? = some x ∧ ys[i]? = some y ∧ zs[i]? = some z,
    fun i H v H' => ∃ T x y z, v = .ref T ∧ H T = none ∧ H' = upd H T (.tup [x, y, z]) ∧ (∀ xs, SqL K H a xs → xs[i]? = some x) ∧ (∀ ys, SqT K H b ys → ys[i]? = some y) ∧ ∀ zs, SqL K H c zs → zs[i]? = some z,
    fun i H => ∃ xs ys zs : List V, SqL K H a xs ∧ SqT K H b ys ∧ SqL K H c zs ∧ xs.length = i ∧ ys.length = i ∧ zs.length = i⟩
theorem turn_z3L {P : Program} {w : World} {K : PySem.W.Frag} {elts : List Expr} {kk : Nat} {tpos : Pos} {a b c z TI TO i1 i2 i3 : Addr} (D : ZipSep3 z TI TO i1 i2 i3 [i1, a] [i2, b] [i3, c]) (na : a ≠ i1) (nb : b ≠ i2) (nc : c ≠ i3) :
    Turn P w K (.Tuple elts kk tpos) (Itz3L K a b c) [z, TI, TO, i1, i2, i3] z (fun i h => IsZip h z TI TO .none ∧ IsTupOf3 h TI (.ref i1) (.ref i2) (.ref i3) ∧ (∃ x y u, IsTupOf3 h TO x y u) ∧ h.IsListIter i1 a i ∧ h.IsTupleIter i2 b i ∧ h.IsListIter i3 c i) where
  mem := by simp
  obj := fun i h st m hm => by
    obtain ⟨hz, hTI, ⟨x, y, u, hTO⟩, ⟨o1, e1, _, d1⟩, ⟨o2, e2, _, d2⟩, ⟨o3, e3, _, d3⟩⟩ := st
    rcases (by simpa using hm : m = z ∨ m = TI ∨ m = TO ∨ m = i1 ∨ m = i2 ∨ m = i3) with q | q | q | q | q | q
    · rw [q]; exact ⟨_, hz, fun v q => nomatch q⟩
    · rw [q]; exact ⟨_, hTI, fun v q => nomatch q⟩
    · rw [q]; exact ⟨_, hTO, fun v q => nomatch q⟩
    · rw [q]; exact ⟨o1, e1, fun v q => by rw [d1] at q; cases q⟩
    · rw [q]; exact ⟨o2, e2, fun v q => by rw [d2] at q; cases q⟩
    · rw [q]; exact ⟨o3, e3, fun v q => by rw [d3] at q; cases q⟩
  keep := fun i h h' st k => by
    obtain ⟨hz, hTI, ⟨x, y, u, hTO⟩, h1, h2, h3⟩ := st
    exact ⟨k z (by simp) _ hz, k TI (by simp) _ hTI, ⟨x, y, u, k TO (by simp) _ hTO⟩, h1.at fun o q => k i1 (by simp) o q, h2.at fun o q => k i2 (by simp) o q, h3.at fun o q => k i3 (by simp) o q⟩
  item := by
    intro X hP hw hK hc i pins s σ H E I hf st hg
    subst hP hw hK
    obtain ⟨hz, hTI, ⟨x0, y0, u0, hTO⟩, h1, h2, h3⟩ := st
    obtain ⟨xs, ys, zs, x, y, t, hqx, hqy, hqz, hx, hy, ht⟩ := hg
    obtain ⟨its, rv, p1, _⟩ := I.list hqx; obtain ⟨jts, rw2, p2, _⟩ := I.tuple hqy; obtain ⟨kts, rw3, p3, _⟩ := I.list hqz
    obtain ⟨u1, hu1, ru1⟩ := rv.get hx; obtain ⟨u2, hu2, ru2⟩ := rw2.get hy; obtain ⟨u3, hu3, ru3⟩ := rw3.get ht
    have l1 : i < its.length := (List.getElem?_eq_some_iff.mp hu1).1; have l2 : i < jts.length := (List.getElem?_eq_some_iff.mp hu2).1; have l3 : i < kts.length := (List.getElem?_eq_some_iff.mp hu3).1
    have nh : X.A.in1.handled = none := by simp [I.ok.hd hc]
    have dw1 := Draws.list (prog := X.prog) (w := X.w) (A := X.A.in1) nh i1 a na its.toArray
    have dw2 := Draws.tuple (prog := X.prog) (w := X.w) (A := X.A.in1) nh i2 b nb jts.toArray
    have dw3 := Draws.list (prog := X.prog) (w := X.w) (A := X.A.in1) nh i3 c nc kts.toArray
    have zl : z < s.heap.objs.size := Heap.lt_size hz
    refine wpAny_pyNext_zipD3_item D dw1 dw2 dw3 hz hTI hTO ⟨h1, p1.isList⟩ ⟨h2, p2⟩ ⟨h3, p3.isList⟩ (by simpa using l1) (by simpa using l2) (by simpa using l3) fun v1 v2 v3 g tk q1 q2 q3 z' TO' s1 s2 s3 hT sz k => ?_
    have e1 := pick hu1 q1; have e2 := pick hu2 q2; have e3 := pick hu3 q3
    subst e1; subst e2; subst e3
    refine ⟨_, rfl, wpAny_letOwnedTupleGo_zip (s := { s with heap := g, toks := tk }) z' fun g2 z'' sb => ?_⟩
    have hT2 : g2.get? s.heap.objs.size = some { cls := .type "tuple", data := .seq #[v1, v2, v3] } := (sb.2 _ (Nat.ne_of_gt zl)).trans hT
    have new : ObjOk X.prog X.w (upd H s.heap.objs.size (.tup [x, y, t])) g2 s.heap.objs.size (.tup [x, y, t]) :=
      ⟨by show 3 ≤ sizeLine; decide, [v1, v2, v3], .cons ru1 (.cons ru2 (.cons ru3 .nil)), ⟨_, hT2, rfl, _, rfl⟩⟩
    have I2 : Inv X pins σ (upd H s.heap.objs.size (.tup [x, y, t])) { s with heap := g2, toks := tk } :=
      I.turnedNew (t' := tk) (ch := [z, TI, TO, i1, i2, i3]) (fun m o hb q => (sb.2 m (fun q' => hb (by simp [q']))).trans (k m o (fun q' => hb (by simp [q'])) (fun q' => hb (by simp [q'])) (fun q' => hb (by simp [q'])) (fun q' => hb (by simp [q'])) (fun q' => hb (by simp [q'])) q)) hf (Nat.le_refl _) new
    refine ⟨.ref s.heap.objs.size, _, I2, rfl, ⟨_, x, y, t, rfl, I.hok.fresh (Nat.le_refl _), rfl, fun l hl => by rw [I.list_inj hl hqx]; exact hx, fun l hl => by rw [I.tuple_inj hl hqy]; exact hy, fun l hl => by rw [I.list_inj hl hqz]; exact ht⟩, ⟨z'', ?_, ⟨v1, v2, v3, ?_⟩, ?_, ?_, ?_⟩, fun m hm => ?_⟩
    · exact (sb.2 _ D.TIz).trans (k _ _ D.TIz D.TITO D.TIi1 D.TIi2 D.TIi3 hTI)
    · exact (sb.2 _ D.TOz).trans TO'
    · exact s1.1.at fun o q => (sb.2 _ D.zi1.symm).trans q
    · exact s2.1.at fun o q => (sb.2 _ D.zi2.symm).trans q
    · exact s3.1.at fun o q => (sb.2 _ D.zi3.symm).trans q
    · have lm : m < s.heap.objs.size := by
        rcases (by simpa using hm : m = z ∨ m = TI ∨ m = TO ∨ m = i1 ∨ m = i2 ∨ m = i3) with q | q | q | q | q | q
        · rw [q]; exact zl
        · rw [q]; exact Heap.lt_size hTI
        · rw [q]; exact Heap.lt_size hTO
        · rw [q]; obtain ⟨_, w1, _⟩ := h1; exact Heap.lt_size w1
        · rw [q]; obtain ⟨_, w1, _⟩ := h2; exact Heap.lt_size w1
        · rw [q]; obtain ⟨_, w1, _⟩ := h3; exact Heap.lt_size w1
      rw [upd_ne (Nat.ne_of_lt lm)]; exact (hf m hm).1
  done := by
    intro X hP hw hK hc i pins s σ H E I hf st hg
    subst hP hw hK
    obtain ⟨hz, hTI, ⟨x0, y0, u0, hTO⟩, h1, h2, h3⟩ := st
    obtain ⟨xs, ys, zs, hqx, hqy, hqz, ln1, ln2, ln3⟩ := hg
    obtain ⟨its, rv, p1, _⟩ := I.list hqx; obtain ⟨jts, rw2, p2, _⟩ := I.tuple hqy; obtain ⟨kts, rw3, p3, _⟩ := I.list hqz
    have m1 := rv.length; have m2 := rw2.length; have m3 := rw3.length
    have nh : X.A.in1.handled = none := by simp [I.ok.hd hc]
    have dw1 := Draws.list (prog := X.prog) (w := X.w) (A := X.A.in1) nh i1 a na its.toArray
    have dw2 := Draws.tuple (prog := X.prog) (w := X.w) (A := X.A.in1) nh i2 b nb jts.toArray
    have dw3 := Draws.list (prog := X.prog) (w := X.w) (A := X.A.in1) nh i3 c nc kts.toArray
    exact wpAny_pyNext_zipD3_end D dw1 dw2 dw3 hz hTI hTO ⟨h1, p1.isList⟩ ⟨h2, p2⟩ ⟨h3, p3.isList⟩ (by simp; omega) (by simp; omega) (by simp; omega) (.inl (by simp; omega)) fun g tk k => ⟨rfl, I.turnedL (t' := tk) (ch := [z, TI, TO, i1, i2, i3]) (fun m o hb q =>
      k m o (fun q' => hb (by simp [q'])) (fun q' => hb (by simp [q'])) (fun q' => hb (by simp [q'])) (fun q' => hb (by simp [q'])) (fun q' => hb (by simp [q'])) q) hf⟩
  self := fun A i s Q E st h => wpAny_pyIter_zip st.1 h
def iZ3L (K : PySem.W.Frag) (ta : TA) : TI := fun σ H R => ta σ H fun vs H1 => ∃ a b c xs ys zs, vs = [.ref a, .ref b, .ref c] ∧ SqL K H1 a xs ∧ SqT K H1 b ys ∧ SqL K H1 c zs ∧ R (Itz3L K a b c) H1
theorem pi_z3L {X : Cx} {e e2 e3 : Expr} {ta : TA} {p pos tpos : Pos} {elts : List Expr} {kk : Nat} (hg : Gl X "zip") (hm : X.mg "zip" = none) (ha : PA X [e, e2, e3] ta)
    (hs : starEach [e, e2, e3] X.env = (false, eval e X.env) :: starEach [e2, e3] X.env := by rfl) (hpl : (backTo pos (starEach [e2, e3] X.env)).any (·.1) = false := by rfl) :
    PI X (.Tuple elts kk tpos) (.Call (.Name "zip" p) [e, e2, e3] [] pos) (iZ3L X.K ta) := by
  refine ⟨fun pins s σ H R I h => Call_ (ld_blt I hg hm PyProof.Rows.boot_zip (PyProof.Rows.callWith_type1 (thn (ha.run pos pins s σ H _ I h) fun us s1 ⟨vs, H1, I1, r1, q1⟩ => ?_) hs hpl))⟩
  obtain ⟨a, b, c, xs, ys, zs, ex, hqa, hqb, hqc, q⟩ := q1
  subst ex
  cases r1 with | cons ra r1 => cases r1 with | cons rb r1 => cases r1 with | cons rc r1 =>
    cases r1; cases ra; cases rb; cases rc
    obtain ⟨its, _, p1, _⟩ := I1.list hqa; obtain ⟨jts, _, p2, _⟩ := I1.tuple hqb; obtain ⟨kts, _, p3, _⟩ := I1.list hqc
    have la : a < s1.heap.objs.size := by obtain ⟨_, y, _⟩ := p1.isList; exact Heap.lt_size y
    have lb : b < s1.heap.objs.size := by obtain ⟨_, y, _⟩ := p2; exact Heap.lt_size y
    have lc : c < s1.heap.objs.size := by obtain ⟨_, y, _⟩ := p3.isList; exact Heap.lt_size y
    refine zip_begins3 (begins_list a its.toArray) (begins_tuple b jts.toArray) (begins_list c kts.toArray) p1.isList p2 p3.isList fun g hz hTI hTO g1 g2 g3 _ k => wpAny_pyIter_zip hz ?_
    have I2 : Inv X pins σ H1 { s1 with heap := g } := I1.kept (t' := s1.toks) k
    have sep : ZipSep3 (s1.heap.objs.size + 5) (s1.heap.objs.size + 3) (s1.heap.objs.size + 4) s1.heap.objs.size (s1.heap.objs.size + 1) (s1.heap.objs.size + 2) [s1.heap.objs.size, a] [s1.heap.objs.size + 1, b] [s1.heap.objs.size + 2, c] :=
      zip_sep3 (fp1 := [a]) (fp2 := [b]) (fp3 := [c]) (by simpa using la) (by simpa using lb) (by simpa using lc)
    refine ⟨s1.heap.objs.size + 5, [s1.heap.objs.size + 5, s1.heap.objs.size + 3, s1.heap.objs.size + 4, s1.heap.objs.size, s1.heap.objs.size + 1, s1.heap.objs.size + 2], _, _, H1, rfl, I2, turn_z3L sep (Nat.ne_of_lt la) (Nat.ne_of_lt (Nat.lt_succ_of_lt lb)) (Nat.ne_of_lt (Nat.lt_succ_of_lt (Nat.lt_succ_of_lt lc))), ⟨hz, hTI, ⟨_, _, _, hTO⟩, ⟨_, g1, rfl, rfl⟩, ⟨_, g2, rfl, rfl⟩, ⟨_, g3, rfl, rfl⟩⟩, fun m hm => ?_, q⟩
    have lm : s1.heap.objs.size ≤ m := by
      rcases (by simpa using hm : m = s1.heap.objs.size + 5 ∨ m = s1.heap.objs.size + 3 ∨ m = s1.heap.objs.size + 4 ∨ m = s1.heap.objs.size ∨ m = s1.heap.objs.size + 1 ∨ m = s1.heap.objs.size + 2) with z | z | z | z | z | z
      all_goals (rw [z]; first | exact Nat.le_add_right _ _ | exact Nat.le_refl _)
    exact I1.fpOk lm (I1.hok.fresh lm)
def ItzLT (K : PySem.W.Frag) (a b : Addr) : It :=
  ⟨fun i H => ∃ (xs ys : List V) (x y : V), SqL K H a xs ∧ SqT K H b ys ∧ xs[i]? = some x ∧ ys[i]? = some y,
    fun i H v H' => ∃ T x y, v = .ref T ∧ H T = none ∧ H' = upd H T (.tup [x, y]) ∧ (∀ xs, SqL K H a xs → xs[i]? = some x) ∧ ∀ ys, SqT K H b ys → ys[i]? = some y,
    fun i H => ∃ xs ys : List V, SqL K H a xs ∧ SqT K H b ys ∧ xs.length = i ∧ ys.length = i⟩
theorem turn_zipLT {P : Program} {w : World} {K : PySem.W.Frag} {elts : List Expr} {kk : Nat} {tpos : Pos} {a b z TI TO i1 i2 : Addr} (D : ZipSep2 z TI TO i1 i2 [i1, a] [i2, b]) (na : a ≠ i1) (nb : b ≠ i2) :
    Turn P w K (.Tuple elts kk tpos) (ItzLT K a b) [z, TI, TO, i1, i2] z (fun i h => IsZip h z TI TO .none ∧ IsTupOf2 h TI (.ref i1) (.ref i2) ∧ (∃ x y, IsTupOf2 h TO x y) ∧ h.IsListIter i1 a i ∧ h.IsTupleIter i2 b i) where
  mem := by simp
  obj := fun i h st m hm => by
    obtain ⟨hz, hTI, ⟨x, y, hTO⟩, ⟨o1, e1, _, d1⟩, ⟨o2, e2, _, d2⟩⟩ := st
    rcases (by simpa using hm : m = z ∨ m = TI ∨ m = TO ∨ m = i1 ∨ m = i2) with q | q | q | q | q
    · rw [q]; exact ⟨_, hz, fun v q => nomatch q⟩
    · rw [q]; exact ⟨_, hTI, fun v q => nomatch q⟩
    · rw [q]; exact ⟨_, hTO, fun v q => nomatch q⟩
    · rw [q]; exact ⟨o1, e1, fun v q => by rw [d1] at q; cases q⟩
    · rw [q]; exact ⟨o2, e2, fun v q => by rw [d2] at q; cases q⟩
  keep := fun i h h' st k => by
    obtain ⟨hz, hTI, ⟨x, y, hTO⟩, h1, h2⟩ := st
    exact ⟨k z (by simp) _ hz, k TI (by simp) _ hTI, ⟨x, y, k TO (by simp) _ hTO⟩, h1.at fun o q => k i1 (by simp) o q, h2.at fun o q => k i2 (by simp) o q⟩
  item := by
    intro X hP hw hK hc i pins s σ H E I hf st hg
    subst hP hw hK
    obtain ⟨hz, hTI, ⟨x0, y0, hTO⟩, h1, h2⟩ := st
    obtain ⟨xs, ys, x, y, hqx, hqy, hx, hy⟩ := hg
    obtain ⟨its, rv, p1, _⟩ := I.list hqx; obtain ⟨jts, rw2, p2, _⟩ := I.tuple hqy
    obtain ⟨u1, hu1, ru1⟩ := rv.get hx; obtain ⟨u2, hu2, ru2⟩ := rw2.get hy
    have l1 : i < its.length := (List.getElem?_eq_some_iff.mp hu1).1; have l2 : i < jts.length := (List.getElem?_eq_some_iff.mp hu2).1
    have nh : X.A.in1.handled = none := by simp [I.ok.hd hc]
    have dw1 := Draws.list (prog := X.prog) (w := X.w) (A := X.A.in1) nh i1 a na its.toArray
    have dw2 := Draws.tuple (prog := X.prog) (w := X.w) (A := X.A.in1) nh i2 b nb jts.toArray
    have zl : z < s.heap.objs.size := Heap.lt_size hz
    refine wpAny_pyNext_zipD2_item D dw1 dw2 hz hTI hTO ⟨h1, p1.isList⟩ ⟨h2, p2⟩ (by simpa using l1) (by simpa using l2) fun v1 v2 g tk q1 q2 z' TO' s1 s2 hT sz k => ?_
    have e1 := pick hu1 q1; have e2 := pick hu2 q2
    subst e1; subst e2
    refine ⟨_, rfl, wpAny_letOwnedTupleGo_zip (s := { s with heap := g, toks := tk }) z' fun g2 z'' sb => ?_⟩
    have hT2 : g2.get? s.heap.objs.size = some { cls := .type "tuple", data := .seq #[v1, v2] } := (sb.2 _ (Nat.ne_of_gt zl)).trans hT
    have new : ObjOk X.prog X.w (upd H s.heap.objs.size (.tup [x, y])) g2 s.heap.objs.size (.tup [x, y]) :=
      ⟨by show 2 ≤ sizeLine; decide, [v1, v2], .cons ru1 (.cons ru2 .nil), ⟨_, hT2, rfl, _, rfl⟩⟩
    have I2 : Inv X pins σ (upd H s.heap.objs.size (.tup [x, y])) { s with heap := g2, toks := tk } :=
      I.turnedNew (t' := tk) (ch := [z, TI, TO, i1, i2]) (fun m o hb q => (sb.2 m (fun q' => hb (by simp [q']))).trans (k m o (fun q' => hb (by simp [q'])) (fun q' => hb (by simp [q'])) (fun q' => hb (by simp [q'])) (fun q' => hb (by simp [q'])) q)) hf (Nat.le_refl _) new
    refine ⟨.ref s.heap.objs.size, _, I2, rfl, ⟨_, x, y, rfl, I.hok.fresh (Nat.le_refl _), rfl, fun l hl => by rw [I.list_inj hl hqx]; exact hx, fun l hl => by rw [I.tuple_inj hl hqy]; exact hy⟩, ⟨z'', ?_, ⟨v1, v2, ?_⟩, ?_, ?_⟩, fun m hm => ?_⟩
    · exact (sb.2 _ D.TIz).trans (k _ _ D.TIz D.TITO D.TIi1 D.TIi2 hTI)
    · exact (sb.2 _ D.TOz).trans TO'
    · exact s1.1.at fun o q => (sb.2 _ D.zi1.symm).trans q
    · exact s2.1.at fun o q => (sb.2 _ D.zi2.symm).trans q
    · have lm : m < s.heap.objs.size := by
        rcases (by simpa using hm : m = z ∨ m = TI ∨ m = TO ∨ m = i1 ∨ m = i2) with q | q | q | q | q
        · rw [q]; exact zl
        · rw [q]; exact Heap.lt_size hTI
        · rw [q]; exact Heap.lt_size hTO
        · rw [q]; obtain ⟨_, w1, _⟩ := h1; exact Heap.lt_size w1
        · rw [q]; obtain ⟨_, w1, _⟩ := h2; exact Heap.lt_size w1
      rw [upd_ne (Nat.ne_of_lt lm)]; exact (hf m hm).1
  done := by
    intro X hP hw hK hc i pins s σ H E I hf st hg
    subst hP hw hK
    obtain ⟨hz, hTI, ⟨x0, y0, hTO⟩, h1, h2⟩ := st
    obtain ⟨xs, ys, hqx, hqy, ln1, ln2⟩ := hg
    obtain ⟨its, rv, p1, _⟩ := I.list hqx; obtain ⟨jts, rw2, p2, _⟩ := I.tuple hqy
    have m1 := rv.length; have m2 := rw2.length
    have nh : X.A.in1.handled = none := by simp [I.ok.hd hc]
    have dw1 := Draws.list (prog := X.prog) (w := X.w) (A := X.A.in1) nh i1 a na its.toArray
    have dw2 := Draws.tuple (prog := X.prog) (w := X.w) (A := X.A.in1) nh i2 b nb jts.toArray
    exact wpAny_pyNext_zipD2_end D dw1 dw2 hz hTI hTO ⟨h1, p1.isList⟩ ⟨h2, p2⟩ (by simp; omega) (by simp; omega) (.inl (by simp; omega)) fun g tk k => ⟨rfl, I.turnedL (t' := tk) (ch := [z, TI, TO, i1, i2]) (fun m o hb q =>
      k m o (fun q' => hb (by simp [q'])) (fun q' => hb (by simp [q'])) (fun q' => hb (by simp [q'])) (fun q' => hb (by simp [q'])) q) hf⟩
  self := fun A i s Q E st h => wpAny_pyIter_zip st.1 h
def iZipLT (K : PySem.W.Frag) (ta : TA) : TI := fun σ H R => ta σ H fun vs H1 => ∃ a b xs ys, vs = [.ref a, .ref b] ∧ SqL K H1 a xs ∧ SqT K H1 b ys ∧ R (ItzLT K a b) H1
theorem pi_zipLT {X : Cx} {e e2 : Expr} {ta : TA} {p pos tpos : Pos} {elts : List Expr} {kk : Nat} (hg : Gl X "zip") (hm : X.mg "zip" = none) (ha : PA X [e, e2] ta)
    (hs : starEach [e, e2] X.env = (false, eval e X.env) :: starEach [e2] X.env := by rfl) (hpl : (backTo pos (starEach [e2] X.env)).any (·.1) = false := by rfl) :
    PI X (.Tuple elts kk tpos) (.Call (.Name "zip" p) [e, e2] [] pos) (iZipLT X.K ta) := by
  refine ⟨fun pins s σ H R I h => Call_ (ld_blt I hg hm PyProof.Rows.boot_zip (PyProof.Rows.callWith_type1 (thn (ha.run pos pins s σ H _ I h) fun us s1 ⟨vs, H1, I1, r1, q1⟩ => ?_) hs hpl))⟩
  obtain ⟨a, b, xs, ys, ex, hqa, hqb, q⟩ := q1
  subst ex
  cases r1 with | cons ra r1 => cases r1 with | cons rb r1 =>
    cases r1; cases ra; cases rb
    obtain ⟨its, _, p1, _⟩ := I1.list hqa; obtain ⟨jts, _, p2, _⟩ := I1.tuple hqb
    have la : a < s1.heap.objs.size := by obtain ⟨_, y, _⟩ := p1.isList; exact Heap.lt_size y
    have lb : b < s1.heap.objs.size := by obtain ⟨_, y, _⟩ := p2; exact Heap.lt_size y
    refine zip_begins2 (begins_list a its.toArray) (begins_tuple b jts.toArray) p1.isList p2 fun g hz hTI hTO g1 g2 _ k => wpAny_pyIter_zip hz ?_
    have I2 : Inv X pins σ H1 { s1 with heap := g } := I1.kept (t' := s1.toks) k
    have sep : ZipSep2 (s1.heap.objs.size + 4) (s1.heap.objs.size + 2) (s1.heap.objs.size + 3) s1.heap.objs.size (s1.heap.objs.size + 1) [s1.heap.objs.size, a] [s1.heap.objs.size + 1, b] :=
      zip_sep2 (fp1 := [a]) (fp2 := [b]) (by simpa using la) (by simpa using lb)
    refine ⟨s1.heap.objs.size + 4, [s1.heap.objs.size + 4, s1.heap.objs.size + 2, s1.heap.objs.size + 3, s1.heap.objs.size, s1.heap.objs.size + 1], _, _, H1, rfl, I2, turn_zipLT sep (Nat.ne_of_lt la) (Nat.ne_of_lt (Nat.lt_succ_of_lt lb)), ⟨hz, hTI, ⟨_, _, hTO⟩, ⟨_, g1, rfl, rfl⟩, ⟨_, g2, rfl, rfl⟩⟩, fun m hm => ?_, q⟩
    have lm : s1.heap.objs.size ≤ m := by
      rcases (by simpa using hm : m = s1.heap.objs.size + 4 ∨ m = s1.heap.objs.size + 2 ∨ m = s1.heap.objs.size + 3 ∨ m = s1.heap.objs.size ∨ m = s1.heap.objs.size + 1) with z | z | z | z | z
      all_goals (rw [z]; first | exact Nat.le_add_right _ _ | exact Nat.le_refl _)
    exact I1.fpOk lm (I1.hok.fresh lm)
end Enz
namespace Dat
open PySem PySem.Spec PyProof.Rows L2
theorem zip3LQ {X : Cx} {K : PySem.W.Frag} [Tb K] {e e2 e3 : Expr} {ta : TA} {p pos tpos : Pos} {elts : List Expr} {kk : Nat} (hK : X.K = K) (hg : Gl X "zip") (hm : X.mg "zip" = none) (ha : PA X [e, e2, e3] ta)
    (hs : starEach [e, e2, e3] X.env = (false, eval e X.env) :: starEach [e2, e3] X.env := by rfl) (hpl : (backTo pos (starEach [e2, e3] X.env)).any (·.1) = false := by rfl) :
    PI X (.Tuple elts kk tpos) (.Call (.Name "zip" p) [e, e2, e3] [] pos) (Enz.iZ3L K ta) := by
  subst hK
  exact Enz.pi_z3L hg hm ha hs hpl
theorem zipLTQ {X : Cx} {K : PySem.W.Frag} {e e2 : Expr} {ta : TA} {p pos tpos : Pos} {elts : List Expr} {kk : Nat} (hK : X.K = K) (hg : Gl X "zip") (hm : X.mg "zip" = none) (ha : PA X [e, e2] ta)
    (hs : starEach [e, e2] X.env = (false, eval e X.env) :: starEach [e2] X.env := by rfl) (hpl : (backTo pos (starEach [e2] X.env)).any (·.1) = false := by rfl) :
    PI X (.Tuple elts kk tpos) (.Call (.Name "zip" p) [e, e2] [] pos) (Enz.iZipLT K ta) := by
  subst hK
  exact Enz.pi_zipLT hg hm ha hs hpl
section
variable {K : PySem.W.Frag} [Tb K] {Γ : List (Option Av)} {Ω : AH} {tl : TA} {ds es fs : List PyData}
theorem walk_z3L {F : Hp} {a b c : Addr} {xs ys zs : List V} (h : F a = some (.lst xs)) (g : DqAll K F xs ds) (h2 : SqT K F b ys) (g2 : DqAll K F ys es) (h3 : F c = some (.lst zs)) (g3 : DqAll K F zs fs) (hl : ds.length = es.length) (hl2 : ds.length = fs.length) : WalkA K F (Enz.Itz3L K a b c) (zip3A ds es fs) := by
  constructor
  · intro Ω H k i m e
    obtain ⟨hi, rfl⟩ := rng_at e
    obtain ⟨v, ev, hv⟩ := getD_dq g hi
    obtain ⟨u, eu, hu⟩ := getD_dq g2 (i := i) (by omega)
    obtain ⟨t, et, ht⟩ := getD_dq g3 (i := i) (by omega)
    refine ⟨⟨xs, ys, zs, v, u, t, SqL.of (k.fr.trans Fz_le _ _ h), sqT_same (k.fr.trans Fz_le) h2, SqL.of (k.fr.trans Fz_le _ _ h3), ev, eu, et⟩, fun x H' hy => ?_⟩
    obtain ⟨T, x2, y2, z2, rfl, nT, rfl, f, f2, f3⟩ := hy
    have t1 := f xs (SqL.of (k.fr.trans Fz_le _ _ h))
    have t2 := f2 ys (sqT_same (k.fr.trans Fz_le) h2)
    have t3 := f3 zs (SqL.of (k.fr.trans Fz_le _ _ h3))
    rw [ev] at t1
    rw [eu] at t2
    rw [et] at t3
    cases t1
    cases t2
    cases t3
    exact ⟨same_new nT, .dat (tup_new k nT (.cons (hv.same k.fr) (.cons (hu.same k.fr) (.cons (ht.same k.fr) .nil))))⟩
  · intro Ω H k
    have := g.length
    have := g2.length
    have := g3.length
    refine ⟨xs, ys, zs, SqL.of (k.fr.trans Fz_le _ _ h), sqT_same (k.fr.trans Fz_le) h2, SqL.of (k.fr.trans Fz_le _ _ h3), ?_, ?_, ?_⟩ <;> (simp [zip3A]; omega)
theorem walk_zipLT {F : Hp} {a b : Addr} {xs ys : List V} (h : F a = some (.lst xs)) (g : DqAll K F xs ds) (h2 : SqT K F b ys) (g2 : DqAll K F ys es) (hl : ds.length = es.length) : WalkA K F (Enz.ItzLT K a b) (zipA ds es) := by
  constructor
  · intro Ω H k i c e
    obtain ⟨hi, rfl⟩ := rng_at e
    obtain ⟨v, ev, hv⟩ := getD_dq g hi
    obtain ⟨u, eu, hu⟩ := getD_dq g2 (i := i) (by omega)
    refine ⟨⟨xs, ys, v, u, SqL.of (k.fr.trans Fz_le _ _ h), sqT_same (k.fr.trans Fz_le) h2, ev, eu⟩, fun x H' hy => ?_⟩
    obtain ⟨T, x2, y2, rfl, nT, rfl, f, f2⟩ := hy
    have t1 := f xs (SqL.of (k.fr.trans Fz_le _ _ h))
    have t2 := f2 ys (sqT_same (k.fr.trans Fz_le) h2)
    rw [ev] at t1
    rw [eu] at t2
    cases t1
    cases t2
    exact ⟨same_new nT, .dat (tup_new k nT (.cons (hv.same k.fr) (.cons (hu.same k.fr) .nil)))⟩
  · intro Ω H k
    have := g.length
    have := g2.length
    refine ⟨xs, ys, SqL.of (k.fr.trans Fz_le _ _ h), sqT_same (k.fr.trans Fz_le) h2, ?_, ?_⟩ <;> (simp [zipA]; omega)
theorem i_z3L {P : List Av → AH → Prop} (h : AW K tl Γ Ω fun as Ω1 => ∃ ds es fs, as = [.dat (.list ds), .dat (.tuple es), .dat (.list fs)] ∧ ds.length = es.length ∧ ds.length = fs.length ∧ P (zip3A ds es fs) Ω1) : IW K (Enz.iZ3L K tl) Γ Ω P := fun F σ H R k q =>
  h F σ H _ k fun as vs Ω1 H1 ⟨ds, es, fs, e, hl, hl2, hp⟩ k1 v1 => by
    subst e
    cases v1 with | cons va v1 => cases v1 with | cons vb v1 => cases v1 with | cons vc v1 => cases v1; cases va with | dat va => cases vb with | dat vb => cases vc with | dat vc => cases va with | lst hs g => cases vb with | tup hs2 g2 => cases vc with | lst hs3 g3 =>
      exact ⟨_, _, _, _, _, _, rfl, SqL.of (Fz_le _ _ hs), sqT_same Fz_le hs2, SqL.of (Fz_le _ _ hs3), q _ _ _ _ hp k1 (walk_z3L hs g hs2 g2 hs3 g3 hl hl2)⟩
theorem i_zipLT {P : List Av → AH → Prop} (h : AW K tl Γ Ω fun as Ω1 => ∃ ds es, as = [.dat (.list ds), .dat (.tuple es)] ∧ ds.length = es.length ∧ P (zipA ds es) Ω1) : IW K (Enz.iZipLT K tl) Γ Ω P := fun F σ H R k q =>
  h F σ H _ k fun as vs Ω1 H1 ⟨ds, es, e, hl, hp⟩ k1 v1 => by
    subst e
    cases v1 with | cons va v1 => cases v1 with | cons vb v1 => cases v1; cases va with | dat va => cases vb with | dat vb => cases va with | lst hs g => cases vb with | tup hs2 g2 =>
      exact ⟨_, _, _, _, rfl, SqL.of (Fz_le _ _ hs), sqT_same Fz_le hs2, q _ _ _ _ hp k1 (walk_zipLT hs g hs2 g2 hl)⟩
end
end Dat

set_option Elab.async false
set_option linter.all false
set_option maxRecDepth 100000
set_option maxHeartbeats 2000000
/-! walks over lists that may change; what is told of fewer lists -/
namespace Dat
open PySem PySem.Spec PyProof.Rows L2
section
variable {K : PySem.W.Frag} [Tb K] {Γ : List (Option Av)} {Ω : AH} {E : EndA} {te : TE} {t : TS} {tt : TT} {g : TG} {p : Addr} {ds : List PyData}
theorem Fz_sub {Ω Ω2 : AH} {H : Hp} (s : ∀ q bs, Ω2 q = some bs → Ω q = some bs) (so : Ω2.o = Ω.o) : Same (Fz Ω H) (Fz Ω2 H) := fun a o e => by
  obtain ⟨n, h2, h3⟩ := Fz_of e
  have m : Ω2 a = none := by
    cases e2 : Ω2 a with
    | none => rfl
    | some bs =>
      have n1 : Ω a = none := n.1
      rw [s a bs e2] at n1
      cases n1
  exact Fz_to ⟨m, by rw [so]; exact n.2⟩ h2 h3
theorem Ok.sub {F H : Hp} {σ : L2.St} {Ω2 : AH} (k : Ok K F Ω Γ σ H) (s : ∀ q bs, Ω2 q = some bs → Ω q = some bs) (so : Ω2.o = Ω.o) : Ok K F Ω2 Γ σ H := by
  have z := Fz_sub (H := H) s so
  refine ⟨k.fr.trans z, fun q bs hq => ?_, k.sl.same z, k.tb, fun q u hq => ?_⟩
  · obtain ⟨xs, h1, h2⟩ := k.st q bs (s q bs hq)
    exact ⟨xs, h1, h2.same z⟩
  · rw [so] at hq
    obtain ⟨x, h1, h2⟩ := k.ob q u hq
    exact ⟨x, h1, h2.same z⟩
theorem EW.sub {P : Av → AH → Prop} (h : EW K te Γ Ω fun a Ω' => ∃ Ω2 : AH, (∀ q bs, Ω2 q = some bs → Ω' q = some bs) ∧ Ω2.o = Ω'.o ∧ P a Ω2) : EW K te Γ Ω P := fun F σ H Q k q =>
  h F σ H Q k fun a v Ω' H' ⟨Ω2, s, so, hp⟩ k' hv => q a v Ω2 H' hp (k'.sub s so) (hv.same (Fz_sub s so))
theorem s_sub {Ω2 : AH} (s : ∀ q bs, Ω2 q = some bs → Ω q = some bs) (h : SW K t Γ Ω2 E) (so : Ω2.o = Ω.o := by rfl) : SW K t Γ Ω E := fun F σ H D k e => h F σ H D (k.sub s so) e
theorem put_self {as : List Av} (h : Ω p = some as) : put Ω p as = Ω := put_id h
theorem r_tupPk {P : Av → AH → Prop} (o : Ω p = some (ds.map .dat)) (h : P (.dat (.tuple ds)) Ω) : R1W K (kTup K) (.ptr p) Ω P := fun F H x Q k hx q => by
  cases hx
  obtain ⟨ys, h1, h2⟩ := k.st p _ o
  exact .inl ⟨_, _, rfl, SqL.of h1, fun u nu => q _ _ _ _ h (k.same (same_new nu)) (.dat (tup_new k nu h2.dats))⟩
structure WalkC (K : PySem.W.Frag) [Tb K] (F : Hp) (J : It) (as : List Av) (C : AH → Prop) : Prop where
  go : ∀ (Ω : AH) (H : Hp), Ok K F Ω [] [] H → C Ω → ∀ i a, as[i]? = some a → J.go i H ∧ ∀ x H', J.yld i H x H' → Same H H' ∧ VOk K (Fz Ω H') a x
  stop : ∀ (Ω : AH) (H : Hp), Ok K F Ω [] [] H → C Ω → J.stop as.length H
def IWC (K : PySem.W.Frag) [Tb K] (wi : TI) (Γ : List (Option Av)) (Ω : AH) (P : List Av → (AH → Prop) → AH → Prop) : Prop :=
  ∀ (F : Hp) (σ : L2.St) (H : Hp) (R : It → Hp → Prop), Ok K F Ω Γ σ H → (∀ as C Ω' H' J, P as C Ω' → Ok K F Ω' Γ σ H' → WalkC K (Fz Ω' H') J as C → R J H') → wi σ H R
theorem walk_p {F : Hp} {as : List Av} : WalkC K F (Itl K p) as (fun Ω => Ω p = some as) := by
  constructor
  · intro Ω H k c i b e
    obtain ⟨xs, h1, h2⟩ := k.st p as c
    obtain ⟨v, ev, hv⟩ := h2.get e
    have hs : SqL K H p xs := SqL.of h1
    refine ⟨⟨xs, v, hs, ev⟩, fun x H' hy => ?_⟩
    obtain ⟨rfl, f⟩ := hy
    have := f xs hs
    rw [ev] at this
    cases this
    exact ⟨Same.refl _, hv⟩
  · intro Ω H k c
    obtain ⟨xs, h1, h2⟩ := k.st p as c
    exact ⟨xs, SqL.of h1, by rw [h2.length]; exact Nat.le_refl _⟩
theorem i_ptr {P : List Av → (AH → Prop) → AH → Prop} (h : EW K te Γ Ω fun a Ω1 => ∃ p as, a = .ptr p ∧ Ω1 p = some as ∧ P as (fun Ω' => Ω' p = some as) Ω1) : IWC K (iList K te) Γ Ω P := fun F σ H R k q =>
  h F σ H _ k fun a v Ω1 H1 ⟨p, as, e, ep, hp⟩ k1 v1 => by
    subst e
    cases v1
    obtain ⟨xs, h1, _⟩ := k1.st p as ep
    exact ⟨p, rfl, ⟨xs, SqL.of h1⟩, q _ _ _ _ _ hp k1 walk_p⟩
theorem s_forC {wi : TI} (M : List Av → Nat → List (Option Av) → AH → Prop) (h : IWC K wi Γ Ω fun as C Ω1 => M as 0 Γ Ω1 ∧ (∀ i Γ' Ω', M as i Γ' Ω' → C Ω') ∧
      (∀ i a Γ' Ω', as[i]? = some a → M as i Γ' Ω' → GW K g a Γ' Ω' fun Γ2 Ω2 => SW K t Γ2 Ω2 { E with nx := M as (i + 1), ct := M as (i + 1), bk := E.nx }) ∧ ∀ Γ' Ω', M as as.length Γ' Ω' → E.nx Γ' Ω') : SW K (tFor wi g t) Γ Ω E := fun F σ H D k e =>
  h F σ H _ k fun as C Ω1 H1 J ⟨h0, hC, hs, hd⟩ k1 wk => by
    have e1 := e.anchor k1.fr
    refine ⟨fun i m σ' H' => m = as.length - i ∧ i ≤ as.length ∧ ∃ Γ' Ω', M as i Γ' Ω' ∧ Ok K (Fz Ω1 H1) Ω' Γ' σ' H', ⟨_, rfl, Nat.zero_le _, Γ, Ω1, h0, k1.re⟩, ?_⟩
    rintro i m σ' H' ⟨rfl, hi, Γ', Ω', hm, k'⟩
    by_cases hlt : i < as.length
    · obtain ⟨hg, hy⟩ := wk.go Ω' H' k'.bare (hC i Γ' Ω' hm) i _ (List.getElem?_eq_getElem hlt)
      refine .inr ⟨hg, fun σ2 H2 => ∃ Γ2 Ω2, M as (i + 1) Γ2 Ω2 ∧ Ok K (Fz Ω1 H1) Ω2 Γ2 σ2 H2, fun σ2 H2 ⟨Γ2, Ω2, hm2, k2⟩ => ⟨_, by omega, rfl, by omega, Γ2, Ω2, hm2, k2⟩, fun x H2 hyx => ?_⟩
      obtain ⟨s2, v2⟩ := hy x H2 hyx
      exact hs i _ Γ' Ω' (List.getElem?_eq_getElem hlt) hm (Fz Ω1 H1) σ' H2 x _ (k'.same s2) v2 fun Γ3 σ3 Ω3 H3 h3 k3 =>
        h3 (Fz Ω1 H1) σ3 H3 _ k3 ⟨fun Γ4 σ4 Ω4 H4 h4 k4 => ⟨Γ4, Ω4, h4, k4⟩, e1.rt, e1.nx, fun Γ4 σ4 Ω4 H4 h4 k4 => ⟨Γ4, Ω4, h4, k4⟩⟩
    · have ei : i = as.length := by omega
      subst ei
      exact .inl ⟨wk.stop Ω' H' k'.bare (hC _ Γ' Ω' hm), e1.nx _ _ _ _ (hd Γ' Ω' hm) k'⟩
theorem e_lcC {wi : TI} {vs : List Nat} {P : Av → AH → Prop} (hg : GN g vs) (M : Addr → List Av → (AH → Prop) → Nat → List Av → AH → Prop)
    (h : IWC K wi Γ Ω fun as C Ω1 => as.length ≤ 50000 ∧ ∀ D, Ω1 D = none → M D as C 0 [] (put Ω1 D []) ∧ (∀ i acc Ω', M D as C i acc Ω' → C Ω') ∧
      (∀ i a acc Ω', as[i]? = some a → M D as C i acc Ω' → Ω' D = some acc ∧ acc.length ≤ i ∧ GW K g a (wipeA Γ vs) Ω' fun Γ2 Ω2 => TW K tt Γ2 Ω2 fun b Ω3 =>
        (b = true → EW K te Γ2 Ω3 fun y Ω4 => Ω4 D = some acc ∧ M D as C (i + 1) (acc ++ [y]) (put Ω4 D (acc ++ [y]))) ∧ (b = false → M D as C (i + 1) acc Ω3)) ∧
      ∀ acc Ω', M D as C as.length acc Ω' → P (.ptr D) Ω') : EW K (tLc wi g tt te vs) Γ Ω P := fun F σ H Q k q =>
  h F σ H _ k fun as C Ω1 H1 J ⟨hz, hM⟩ k1 wk D nD => by
    obtain ⟨h0, hC, hs, hd⟩ := hM D (k1.free nD)
    refine ⟨fun i m H' => m = as.length - i ∧ i ≤ as.length ∧ ∃ acc Ω', M D as C i acc Ω' ∧ Ok K (Fz Ω1 H1) Ω' Γ σ H', ⟨_, rfl, Nat.zero_le _, [], put Ω1 D [], h0, k1.re.new nD .nil⟩, ?_⟩
    rintro i m H' ⟨rfl, hi, acc, Ω', hm, k'⟩
    by_cases hlt : i < as.length
    · obtain ⟨hgo, hy⟩ := wk.go Ω' H' k'.bare (hC _ _ _ hm) i _ (List.getElem?_eq_getElem hlt)
      refine .inr ⟨hgo, fun H2 => ∃ acc Ω2, M D as C (i + 1) acc Ω2 ∧ Ok K (Fz Ω1 H1) Ω2 Γ σ H2, fun H2 ⟨acc2, Ω2, hm2, k2⟩ => ⟨_, by omega, rfl, by omega, acc2, Ω2, hm2, k2⟩, fun x H2 hyx => ?_⟩
      obtain ⟨s2, v2⟩ := hy x H2 hyx
      obtain ⟨eD, la, hb⟩ := hs i _ acc Ω' (List.getElem?_eq_getElem hlt) hm
      have k2 := k'.same s2
      refine hg x (L2.wipe σ vs) H2 _ _ (fun σ3 H3 l3 a3 q3 => ⟨wipe_agree l3 a3, q3⟩) ?_
      refine hb (Fz Ω' H2) (L2.wipe σ vs) H2 x _ (k2.re.wipe vs) v2 fun Γ3 σ3 Ω3 H3 h3 k3 => ?_
      refine h3 (Fz Ω3 H3) σ3 H3 _ k3.re fun b Ω4 H4 h4 k4 => ?_
      have k4' : Ok K (Fz Ω1 H1) Ω4 Γ σ H4 := k2.back ((k4.anchor k3.fr).bare)
      cases b with
      | true =>
        refine h4.1 rfl (Fz Ω4 H4) σ3 H4 _ k4.re fun y v Ω5 H5 ⟨e5, h5⟩ k5 v5 => ?_
        have k5' : Ok K (Fz Ω1 H1) Ω5 Γ σ H5 := k4'.back k5.bare
        obtain ⟨xs, hx, g5⟩ := k5.st D acc e5
        have l5 := g5.length
        exact ⟨xs, hx, sz_lt (by omega), _, _, h5, k5'.put e5 (g5.app (.cons v5 .nil))⟩
      | false => exact ⟨acc, Ω4, h4.2 rfl, k4'⟩
    · have ei : i = as.length := by omega
      subst ei
      exact .inl ⟨wk.stop Ω' H' k'.bare (hC _ _ _ hm), q _ _ _ _ (hd acc Ω' hm) (k'.anchor k1.fr) (.ptr D)⟩
theorem e_lcFC {α : Type} {wi : TI} {vs : List Nat} {P : Av → AH → Prop} (xs : List α) (enc : α → Av) (p : α → Bool) (out : α → PyData) (hg : GN g vs) (hz : xs.length ≤ 50000)
    (h : IWC K wi Γ Ω fun as C Ω1 => as = xs.map enc ∧ (∀ Ω', (∀ q bs, Ω1 q = some bs → Ω' q = some bs) → C Ω') ∧ (∀ x Ω', x ∈ xs → (∀ q bs, Ω1 q = some bs → Ω' q = some bs) → GW K g (enc x) (wipeA Γ vs) Ω' fun Γ2 Ω2 => Ω2 = Ω' ∧ TW K tt Γ2 Ω2 fun b Ω3 => Ω3 = Ω' ∧ b = p x ∧ (p x = true → EW K te Γ2 Ω3 fun y Ω4 => Ω4 = Ω' ∧ y = .dat (out x))) ∧
      P (.dat (.list ((xs.filter p).map out))) Ω1) : EW K (tLc wi g tt te vs) Γ Ω P := by
  refine EW.frz ?_
  refine e_lcC hg (fun D as C i acc Ω' => ∃ Ω1 : AH, Ω1 D = none ∧ as = xs.map enc ∧ acc = (((xs.take i).filter p).map out).map .dat ∧ Ω' = put Ω1 D acc ∧ (∀ Ω', (∀ q bs, Ω1 q = some bs → Ω' q = some bs) → C Ω') ∧ (∀ x Ω', x ∈ xs → (∀ q bs, Ω1 q = some bs → Ω' q = some bs) → GW K g (enc x) (wipeA Γ vs) Ω' fun Γ2 Ω2 => Ω2 = Ω' ∧ TW K tt Γ2 Ω2 fun b Ω3 => Ω3 = Ω' ∧ b = p x ∧ (p x = true → EW K te Γ2 Ω3 fun y Ω4 => Ω4 = Ω' ∧ y = .dat (out x))) ∧
      P (.dat (.list ((xs.filter p).map out))) Ω1) fun F σ H R k q => h F σ H R k fun as C Ω1 H1 J ⟨e, hc, hb, hp⟩ k1 wk => q as C Ω1 H1 J ⟨by rw [e, List.length_map]; exact hz, fun D nD => ⟨⟨Ω1, nD, e, by simp, rfl, hc, hb, hp⟩, fun i acc Ω' hm => ?_, fun i a acc Ω' ea hm => ?_, fun acc Ω' hm => ?_⟩⟩ k1 wk
  · obtain ⟨Ω0, n0, e0, rfl, rfl, hc0, hb0, hp0⟩ := hm
    exact hc0 _ fun q bs hq => by
      rw [put_ne (ne_of_Ω hq n0)]
      exact hq
  · obtain ⟨Ω0, n0, e0, rfl, rfl, hc0, hb0, hp0⟩ := hm
    subst e0
    rw [List.getElem?_map] at ea
    cases ex : xs[i]? with
    | none => rw [ex] at ea; cases ea
    | some x =>
      rw [ex] at ea
      cases ea
      have mx : x ∈ xs := List.mem_of_getElem? ex
      have tk : (xs.take (i + 1)).filter p = (xs.take i).filter p ++ (if p x = true then [x] else []) := by
        rw [List.take_add_one, ex, List.filter_append]
        show _ ++ (List.filter p [x]) = _
        rw [List.filter_cons, List.filter_nil]
      refine ⟨put_same, ?_, ?_⟩
      · rw [List.length_map, List.length_map]
        exact Nat.le_trans (List.length_filter_le ..) (by rw [List.length_take]; omega)
      refine fun F' σ' H' v Q' k' v' q' => hb0 x _ mx (fun q bs hq => by
        rw [put_ne (ne_of_Ω hq n0)]
        exact hq) F' σ' H' v Q' k' v' fun Γ2 σ2 Ω2 H2 ⟨e2, h2⟩ k2 => q' Γ2 σ2 Ω2 H2 ?_ k2
      subst e2
      refine fun F' σ' H' Q' k' q' => h2 F' σ' H' Q' k' fun b Ω3 H3 ⟨e3, eb, h3⟩ k3 => q' b Ω3 H3 ⟨fun hb => ?_, fun hb => ?_⟩ k3
      · subst e3
        refine (h3 (eb.symm.trans hb)).mono fun y Ω4 ⟨e4, ey⟩ => ?_
        subst e4 ey
        refine ⟨put_same, Ω0, n0, rfl, ?_, by rw [put_put], hc0, hb0, hp0⟩
        rw [tk, if_pos (eb.symm.trans hb), List.map_append, List.map_append]
        rfl
      · subst e3
        refine ⟨Ω0, n0, rfl, ?_, rfl, hc0, hb0, hp0⟩
        rw [tk, if_neg (by rw [← eb, hb]; decide), List.append_nil]
  · obtain ⟨Ω0, n0, e0, rfl, rfl, hc0, hb0, hp0⟩ := hm
    refine ⟨D, _, rfl, put_same, ?_⟩
    rw [del_put n0, e0, List.length_map, List.take_length]
    exact hp0
theorem e_lcMC {α : Type} {wi : TI} {vs : List Nat} {P : Av → AH → Prop} (xs : List α) (enc : α → Av) (out : α → PyData) (hg : GN g vs) (hz : xs.length ≤ 50000)
    (h : IWC K wi Γ Ω fun as C Ω1 => as = xs.map enc ∧ (∀ Ω', (∀ q bs, Ω1 q = some bs → Ω' q = some bs) → C Ω') ∧ (∀ x Ω', x ∈ xs → (∀ q bs, Ω1 q = some bs → Ω' q = some bs) → GW K g (enc x) (wipeA Γ vs) Ω' fun Γ2 Ω2 => Ω2 = Ω' ∧ EW K te Γ2 Ω2 fun y Ω4 => Ω4 = Ω' ∧ y = .dat (out x)) ∧
      P (.dat (.list (xs.map out))) Ω1) : EW K (tLc wi g tYes te vs) Γ Ω P :=
  e_lcFC xs enc (fun _ => true) out hg hz fun F σ H R k q => h F σ H R k fun as C Ω1 H1 J ⟨e, hc, hb, hp⟩ k1 wk => q as C Ω1 H1 J ⟨e, hc, fun x Ω' mx hq F' σ' H' v Q' k' v' q' => hb x Ω' mx hq F' σ' H' v Q' k' v' fun Γ2 σ2 Ω2 H2 ⟨e2, h2⟩ k2 => q' Γ2 σ2 Ω2 H2 ⟨e2, t_yes ⟨e2, rfl, fun _ => h2⟩⟩ k2, by
    rw [List.filter_eq_self.mpr (fun _ _ => rfl)]
    exact hp⟩ k1 wk
end
end Dat

set_option Elab.async false
set_option linter.all false
set_option maxRecDepth 100000
set_option maxHeartbeats 1000000
/-! defs that raise, try .. except: over data -/
namespace Dat
open PySem PySem.Spec PyProof.Rows L2
/-- what is wished where an exception of a class flies -/
abbrev XA := Value → List (Option Av) → AH → Prop
def XOk (K : PySem.W.Frag) [Tb K] (F : Hp) (xc : XA) (W : WX) : Prop := ∀ cls Γ σ Ω H, xc cls Γ Ω → Ok K F Ω Γ σ H → W cls none σ H
def SWX (K : PySem.W.Frag) [Tb K] (W : WX) (ts : TS) (Γ : List (Option Av)) (Ω : AH) (E : EndA) (xc : XA) : Prop :=
  ∀ (F : Hp) (σ : L2.St) (H : Hp) (D : Ends), Ok K F Ω Γ σ H → EndOk K F E D → XOk K F xc W → ts D σ H
abbrev ASpX := List Av → AH → (Av → AH → Prop) → (Value → AH → Prop) → Prop
def spX (K : PySem.W.Frag) [Tb K] (sp : ASpX) : Sp := fun vs H Q E => ∃ (F : Hp) (Ω : AH) (as : List Av) (P : Av → AH → Prop) (PX : Value → AH → Prop), Ok K F Ω [] [] H ∧ VAll K (Fz Ω H) as vs ∧ sp as Ω P PX ∧
  (∀ a v Ω' H', P a Ω' → Ok K F Ω' [] [] H' → VOk K (Fz Ω' H') a v → Q v H') ∧ ∀ cls Ω' H', PX cls Ω' → Ok K F Ω' [] [] H' → E cls none H'
/-- .. where nothing is raised -/
def noX (sp : ASpX) : ASp := fun as Ω P => sp as Ω P fun _ _ => False
/-- raise X("..") -/
def tRaise (C : Addr) (W : WX) : TS := fun _ σ H => W (.ref C) none σ H
def tRaise1 (C : Addr) (te : TE) (W : WX) : TS := fun _ σ H => te σ H fun _ H1 => W (.ref C) none σ H1
section
variable {K : PySem.W.Frag} [Tb K] {Γ : List (Option Av)} {Ω : AH} {E : EndA} {xc : XA} {W : WX} {te : TE} {t u : TS} {tt : TT} {tl : TA} {i : Nat} {C : Addr}
theorem SWX.of (h : SW K t Γ Ω E) : SWX K W t Γ Ω E xc := fun F σ H D k e _ => h F σ H D k e
theorem sx_seq (h : SWX K W t Γ Ω { E with nx := fun Γ' Ω' => SWX K W u Γ' Ω' E xc } xc) : SWX K W (tSeq t u) Γ Ω E xc := fun F σ H D k e x =>
  h F σ H { D with nx := u D } k ⟨fun Γ' σ' Ω' H' h' k' => h' F σ' H' D k' e x, e.rt, e.bk, e.ct⟩ x
theorem sx_seqM (M : List (Option Av) → AH → Prop) (h : SWX K W t Γ Ω { E with nx := M } xc) (h2 : ∀ Γ' Ω', M Γ' Ω' → SWX K W u Γ' Ω' E xc) : SWX K W (tSeq t u) Γ Ω E xc := fun F σ H D k e x =>
  h F σ H { D with nx := u D } k ⟨fun Γ' σ' Ω' H' hm k' => h2 Γ' Ω' hm F σ' H' D k' e x, e.rt, e.bk, e.ct⟩ x
theorem sx_if (h : TW K tt Γ Ω fun b Ω1 => (b = true → SWX K W t Γ Ω1 E xc) ∧ (b = false → SWX K W u Γ Ω1 E xc)) : SWX K W (tIfS tt t u) Γ Ω E xc := fun F σ H D k e x =>
  h F σ H _ k fun b Ω1 H1 hp k1 => by
    cases b with
    | true => exact hp.1 rfl F σ H1 D k1 e x
    | false => exact hp.2 rfl F σ H1 D k1 e x
theorem sx_raise (h : xc (.ref C) Γ Ω) : SWX K W (tRaise C W) Γ Ω E xc := fun F σ H D k e x => x _ _ _ _ _ h k
theorem sx_raise1 (h : EW K te Γ Ω fun _ Ω1 => xc (.ref C) Γ Ω1) : SWX K W (tRaise1 C te W) Γ Ω E xc := fun F σ H D k e x => h F σ H _ k fun a v Ω1 H1 h1 k1 v1 => x _ _ _ _ _ h1 k1
/-- a call that may raise, as a statement; what it returns is bound, or returned -/
theorem sx_call {sp : ASpX} (h : AW K tl Γ Ω fun as Ω1 => sp as Ω1 (fun _ Ω' => E.nx Γ Ω') fun cls Ω' => xc cls Γ Ω') : SWX K W (tDrop (tCallS (spX K sp) (WE W) tl)) Γ Ω E xc := fun F σ H D k e x =>
  h F σ H _ k fun as vs Ω1 H1 h1 k1 v1 => ⟨Fz Ω1 H1, Ω1, as, _, _, k1.bare.re, v1, h1, fun a v Ω' H' hp k' hv => e.nx _ _ _ _ hp (k1.back k'), fun cls Ω' H' hp k' => x _ _ _ _ _ hp (k1.back k')⟩
theorem sx_asgCall {sp : ASpX} (h : AW K tl Γ Ω fun as Ω1 => sp as Ω1 (fun a Ω' => E.nx (Γ.set i (some a)) Ω') fun cls Ω' => xc cls Γ Ω') : SWX K W (tAsg (tCallS (spX K sp) (WE W) tl) (gName i)) Γ Ω E xc := fun F σ H D k e x =>
  h F σ H _ k fun as vs Ω1 H1 h1 k1 v1 => ⟨Fz Ω1 H1, Ω1, as, _, _, k1.bare.re, v1, h1, fun a v Ω' H' hp k' hv => e.nx _ _ _ _ hp ((k1.back k').set hv i), fun cls Ω' H' hp k' => x _ _ _ _ _ hp (k1.back k')⟩
theorem sx_retCall {sp : ASpX} (h : AW K tl Γ Ω fun as Ω1 => sp as Ω1 E.rt fun cls Ω' => xc cls Γ Ω') : SWX K W (tRet (tCallS (spX K sp) (WE W) tl)) Γ Ω E xc := fun F σ H D k e x =>
  h F σ H _ k fun as vs Ω1 H1 h1 k1 v1 => ⟨Fz Ω1 H1, Ω1, as, _, _, k1.bare.re, v1, h1, fun a v Ω' H' hp k' hv => e.rt _ _ _ _ hp ((k1.back k').bare) hv, fun cls Ω' H' hp k' => x _ _ _ _ _ hp (k1.back k')⟩
/-- the ends of an except suite whose name stands in slot i -/
abbrev outE (E : EndA) (i : Nat) : EndA := { nx := fun Γ' Ω' => E.nx (Γ'.set i none) Ω', rt := E.rt, bk := fun Γ' Ω' => E.bk (Γ'.set i none) Ω', ct := fun Γ' Ω' => E.ct (Γ'.set i none) Ω' }
theorem Ok.clr {F : Hp} {σ : L2.St} {H : Hp} (k : Ok K F Ω Γ σ H) (i : Nat) : Ok K F Ω (Γ.set i none) (σ.set i none) H := ⟨k.fr, k.st, k.sl.clear i, k.tb, k.ob⟩
/-- try: body; except c as n: suite, all that is raised being caught -/
theorem s_tryAs {c : Value} {ts : Addr → Value → Option Addr → TS} {Wout : WX} {tb : WX → TS}
    (h : ∀ W, SWX K W (tb W) Γ Ω E fun cls Γ' Ω' => PySem.W.exmOne K cls c = some true ∧ ∀ a, SW K (ts a cls none) (Γ'.set i (some (.ptr a))) Ω' (outE E i)) :
    SW K (fun D σ H => tb (wAs K c i ts Wout D) D σ H) Γ Ω E := fun F σ H D k e =>
  h _ F σ H D k e fun cls Γ' σ' Ω' H' ⟨hc, hs⟩ k' => ⟨true, hc, fun _ a na => hs a F _ H' _ (k'.set (.ptr a) i)
    ⟨fun Γ2 σ2 Ω2 H2 h2 k2 => e.nx _ _ _ _ h2 (k2.clr i), fun a v Ω2 H2 h2 k2 v2 => e.rt _ _ _ _ h2 k2 v2, fun Γ2 σ2 Ω2 H2 h2 k2 => e.bk _ _ _ _ h2 (k2.clr i), fun Γ2 σ2 Ω2 H2 h2 k2 => e.ct _ _ _ _ h2 (k2.clr i)⟩, fun z => by cases z⟩
theorem s_tryOnly {c : Value} {ts : Addr → Value → Option Addr → TS} {Wout : WX} {tb : WX → TS}
    (h : ∀ W, SWX K W (tb W) Γ Ω E fun cls Γ' Ω' => PySem.W.exmOne K cls c = some true ∧ ∀ a, SW K (ts a cls none) Γ' Ω' E) :
    SW K (fun D σ H => tb (wOnly K c ts Wout D) D σ H) Γ Ω E := fun F σ H D k e =>
  h _ F σ H D k e fun cls Γ' σ' Ω' H' ⟨hc, hs⟩ k' => ⟨true, hc, fun _ a na => hs a F _ H' _ k' e, fun z => by cases z⟩
/-- isinstance(e, c), e caught -/
def rIsX (K : PySem.W.Frag) (cls : Value) (d : Option Addr) (a : Addr) : List V → Hp → VK → Prop := fun xs H Q => ∃ D, cls = .ref D ∧ d = none ∧ ExcC K D ∧ rIsE K D a xs H Q
theorem call_isX {X : Cx} {a : Addr} {oe : Obj} {pn : List (Addr × Obj)} {cls : Value} {d : Option Addr} (hz : Zc cls d oe) (hf : ∃ vs, oe.data = .fields vs) : CallR (X.suite a ((a, oe) :: pn)) (.builtin "isinstance") (rIsX X.K cls d a) := by
  intro pins s σ H xs us Q I r h
  obtain ⟨D, rfl, rfl, c, q⟩ := h
  exact call_isE c hz hf pins s σ H xs us Q I r q
theorem c_isX {D C a : Addr} {b : Bool} {P : Av → AH → Prop} (hC : ExcC K D) (hk : PySem.W.kitOne K (.ref D) (.ref C) = some b) (h : P (.dat (.bool b)) Ω) : RCW K (rIsX K (.ref D) none a) [.ptr a, .ptr C] Ω P := fun F H xs Q k hx q => by
  cases hx with | cons h1 hx => cases hx with | cons h2 hx =>
    cases hx
    cases h1
    cases h2
    exact ⟨D, rfl, rfl, hC, .ref C, .ref C, b, rfl, fun u r => r, hk, q _ _ _ _ h k (.dat (.bl b))⟩
theorem c_isXT {D a : Addr} {T : String} {b : Bool} {P : Av → AH → Prop} (hC : ExcC K D) (hk : PySem.W.kitOne K (.ref D) (.type T) = some b) (h : P (.dat (.bool b)) Ω) : RCW K (rIsX K (.ref D) none a) [.ptr a, .ty T] Ω P := fun F H xs Q k hx q => by
  cases hx with | cons h1 hx => cases hx with | cons h2 hx =>
    cases hx
    cases h1
    cases h2
    exact ⟨D, rfl, rfl, hC, .ty T, .type T, b, rfl, fun u r => r, hk, q _ _ _ _ h k (.dat (.bl b))⟩
theorem e_cls {C : Addr} {P : Av → AH → Prop} (h : P (.ptr C) Ω) : EW K (tC (.ref C)) Γ Ω P := fun F σ H Q k q => q _ _ Ω H h k (.ptr C)
end
section
variable {P : Program} {w : World} {K : PySem.W.Frag} [Tb K] {mg : Str → Option Value} {base : Heap}
theorem spX_len {sp : ASpX} {n : Nat} (len : ∀ as Ω P PX, sp as Ω P PX → as.length = n) : ∀ vs H Q E, spX K sp vs H Q E → vs.length = n := fun vs H Q E ⟨F, Ω, as, P, PX, k, va, h, _⟩ => va.length.trans (len as Ω P PX h)
/-- a def that may raise keeps its promise -/
theorem fnX_ok {x qual : Str} {st : Stmt} {f : Addr} {fd : FuncData} {N ps : List Str} {k : Nat} {sp : ASpX} (F : L2.Fun K x qual st f fd) (S : FnScope N ps (defScope st)) (len : ∀ as Ω P PX, sp as Ω P PX → as.length = ps.length)
    (hbody : ∀ (cdv : Value) (A : Around) (outer : List Env) (s : Shared) (H : Hp) (E : XK), Room k (A.deeper (envOfC qual (defScope st) s.heap.objs.size f cdv)) →
      Takes (cxOf (L2.CX P w) P w K mg base N qual (defScope st) f cdv A outer s H E) (fun cls d _ H' => E cls d H') →
      ∃ t : TS, PSs (cxOf (L2.CX P w) P w K mg base N qual (defScope st) f cdv A outer s H E) (defBody st) t ∧
      ∀ as Ω P PX, sp as Ω P PX → SWX K (fun cls d _ H' => E cls d H') t (as.map some ++ List.replicate (N.length - as.length) none) Ω { nx := fun _ Ω' => P (.dat .none) Ω', rt := P } fun cls _ Ω' => PX cls Ω') :
    FnOk P w K mg base (L2.CX P w) (k + 1) f fd ps (spX K sp) := by
  refine F.okX S (spX_len len) fun cdv A outer s H vs Q E hr h => ?_
  obtain ⟨t, ht, hs⟩ := hbody cdv A outer s H E hr (takes_of rfl rfl rfl rfl)
  obtain ⟨F0, Ω, as, P, PX, k0, va, h, hq, hx⟩ := h
  refine ⟨t, ht, hs as Ω P PX h F0 (L2.start N vs) H _ ⟨k0.fr, k0.st, ?_, k0.tb, k0.ob⟩ ⟨fun Γ' σ' Ω' H' hp k' => hq _ _ _ _ hp k'.bare (.dat .non), fun a v Ω' H' hp k' hv => hq _ _ _ _ hp k' hv, fun _ _ _ _ z => z.elim, fun _ _ _ _ z => z.elim⟩
    fun cls Γ' σ' Ω' H' hp k' => hx _ _ _ hp k'.bare⟩
  unfold L2.start
  rw [va.length]
  exact Slots.start (N := N) va _
/-- .. called where it raises nothing -/
theorem fnX_noX {k : Nat} {f : Addr} {fd : FuncData} {ps : List Str} {sp : ASpX} (G : FnOk P w K mg base (L2.CX P w) k f fd ps (spX K sp)) : FnOk P w K mg base CX0 k f fd ps (spA K (noX sp)) := by
  have cv : ∀ vs H Q E, spA K (noX sp) vs H Q E → spX K sp vs H Q E0 := fun vs H Q E ⟨F, Ω, as, P, k0, va, h, hq⟩ => ⟨F, Ω, as, P, fun _ _ => False, k0, va, h, hq, fun _ _ _ z => z.elim⟩
  constructor
  · exact fun vs H Q E h => G.len vs H Q E0 (cv vs H Q E h)
  · intro A outer s H args us vs Q E hr e0 b r h
    refine codeAny_mono (G.run A outer s H args us vs Q E0 hr e0 b r (cv vs H Q E h)) fun r s' hq => ?_
    cases r with
    | ok fl => cases fl <;> exact hq
    | error e =>
      obtain ⟨_, _, _, _, _, _, _, _, _, _, _, _, z⟩ := hq
      exact z.elim
end
/-! ### derivations -/
/-- a class of the program under ValueError without its own __init__ -/
structure ExcD (K : PySem.W.Frag) (mg : Str → Option Value) (x : Str) (C : Addr) : Prop where
  q : PySem.W.excIn K C PySem.HandSPX.veTail "ValueError.__new__" = true
  g : mg x = some (.ref C)
  kp : PySem.W.keepIn K (.ref C) = true
  s : PySem.W.subIn K (.ref C) (.type "BaseException") = some true
  t : PySem.W.typeIn K (.ref C) = some (.type "type")
section
variable {X : Cx} {K : PySem.W.Frag} {mg : Str → Option Value} {W : WX} {x : Str} {C : Addr}
theorem ps_raiseD {m : Str} {j : Nat} {p p2 pos pos' : Pos} (R : ExcD K mg x C) (hK : X.K = K) (hm : X.mg = mg) (hc : X.calm = true) (tk : Takes X W) (hg : Gl X x) (hdb : (x == ("__debug__" : Str)) = false := by decide) :
    PS X (.Raise (some (.Call (.Name x p) [.Constant (.str m) j p2] [] pos)) none pos') (tRaise C W) := by
  subst hK hm
  exact ps_raise hc tk (pmk_own PySem.F.excBase_ValueError R.q R.g R.kp (raises_own R.s R.t) hg hdb)
theorem ps_raiseD1 {e : Expr} {te : TE} {p pos pos' : Pos} (R : ExcD K mg x C) (hK : X.K = K) (hm : X.mg = mg) (hc : X.calm = true) (tk : Takes X W) (hg : Gl X x) (he : PE X e te)
    (hs : starEach [e] X.env = (false, eval e X.env) :: starEach [] X.env := by rfl) (hdb : (x == ("__debug__" : Str)) = false := by decide) :
    PS X (.Raise (some (.Call (.Name x p) [e] [] pos)) none pos') (tRaise1 C te W) := by
  subst hK hm
  exact ps_raise hc tk (SkE.pmk_own1 PySem.F.excBase_ValueError R.q R.g R.kp (raises_own R.s R.t) hg he hs hdb)
end
end Dat

set_option Elab.async false
set_option linter.all false
set_option maxRecDepth 100000
set_option maxHeartbeats 1000000
/-! dicts from texts to ints, made at once and read -/
namespace Dat
open PySem PySem.Spec PyProof.Rows L2
/-- an expression that gives an int and leaves all as it is -/
def EWp (K : PySem.W.Frag) [Tb K] (te : TE) (Γ : List (Option Av)) (Ω : AH) (n : Int) : Prop := ∀ (F : Hp) (σ : L2.St) (H : Hp) (Q : VK), Ok K F Ω Γ σ H → Q (.int n) H → te σ H Q
inductive PairsP (K : PySem.W.Frag) [Tb K] (Γ : List (Option Av)) (Ω : AH) : List (TE × TE) → List (Str × Int) → Prop
  | nil : PairsP K Γ Ω [] []
  | cons {te : TE} {w : Str} {n : Int} {trs : List (TE × TE)} {kvs : List (Str × Int)} (h : EWp K te Γ Ω n) (r : PairsP K Γ Ω trs kvs) : PairsP K Γ Ω ((tC (.str w), te) :: trs) ((w, n) :: kvs)
abbrev kvI (kvs : List (Str × Int)) : List (Key × V) := kvs.map fun kv => (Sum.inr kv.1, V.int kv.2)
abbrev dkI (kvs : List (Str × Int)) : HO := .dK (mergeK [] (kvI kvs))
def optI : Option Int → PyData
  | some n => .int n
  | none => .none
section
variable {K : PySem.W.Frag} [Tb K] {Γ : List (Option Av)} {Ω : AH} {P : Av → AH → Prop} {te ty tx : TE} {i : Nat} {n : Int}
theorem p_var (e : Γ[i]? = some (some (.dat (.int n)))) : EWp K (tVar i) Γ Ω n := fun F σ H Q k q => by
  obtain ⟨v, ev, hv⟩ := k.val e
  cases hv with | dat hv =>
    cases hv
    exact ⟨_, ev, q⟩
theorem p_ixT {ds : List PyData} {z : Int} (e : Γ[i]? = some (some (.dat (.tuple ds)))) (a : atI ds z = some (.int n)) : EWp K (tOp (rIxT K) (tVar i) (tC (.int z))) Γ Ω n := fun F σ H Q k q => by
  obtain ⟨v, ev, hv⟩ := k.val e
  cases hv with | dat hv =>
    cases hv with | tup hs g =>
      obtain ⟨u, eu, hu⟩ := atI_dq g a
      cases hu
      exact ⟨_, ev, _, _, _, _, rfl, rfl, sqT_same Fz_le hs, eu, q⟩
theorem pairs_go {F : Hp} {σ : L2.St} {H : Hp} : ∀ {trs : List (TE × TE)} {kvs : List (Str × Int)}, PairsP K Γ Ω trs kvs → Ok K F Ω Γ σ H → ∀ Q : List (V × V) → Hp → Prop, Q ((kvI kvs).map fun kv => (kV kv.1, kv.2)) H → tPairs trs σ H Q
  | _, _, .nil, _, Q, q => q
  | _, _, .cons h r, k, Q, q => h F σ H _ k (pairs_go r k _ q)
theorem e_disp {trs : List (TE × TE)} {kvs : List (Str × Int)} (h : PairsP K Γ Ω trs kvs) (l : kvs.length ≤ 15) (q : ∀ p, P (.fn p [(p, dkI kvs)] []) Ω) : EW K (tDisp trs) Γ Ω P := fun F σ H Q k hq p np => by
  refine pairs_go h (k.same (same_new np)) _ ⟨upd_same, kvI kvs, rfl, by rw [List.length_map]; exact l, ?_⟩
  have s : Same H (upd (upd H p (.dK [])) p (dkI kvs)) := fun b x e => by
    rw [upd_ne (ne_of_none e np), upd_ne (ne_of_none e np)]
    exact e
  exact hq _ _ _ _ (q p) (k.same s) (.fn (fun x m => by
    rw [List.mem_singleton.mp m]
    exact Fz_at (k.off np)) fun x m => by cases m)
theorem dk_at {H : Hp} {p : Addr} {kvs : List (Key × V)} {v : V} (h : VOk K (Fz Ω H) (.fn p [(p, .dK kvs)] []) v) : v = .ref p ∧ H p = some (.dK kvs) := by
  cases h with | fn h _ => exact ⟨rfl, Fz_le _ _ (h _ List.mem_cons_self)⟩
theorem e_dget (h : EW K te Γ Ω fun a Ω1 => ∃ p kvs, a = .fn p [(p, .dK kvs)] [] ∧ EW K ty Γ Ω1 fun b Ω2 => ∃ w n, b = .dat (.str w) ∧ valV kvs (.inr w) = some (.int n) ∧ P (.dat (.int n)) Ω2) : EW K (tDGet te ty) Γ Ω P := fun F σ H Q k q =>
  h F σ H _ k fun a v Ω1 H1 ⟨p, kvs, ea, h1⟩ k1 v1 => h1 (Fz Ω1 H1) σ H1 _ k1.re fun b x Ω2 H2 ⟨w, n, eb, ev, hp⟩ k2 v2 => by
    subst ea eb
    obtain ⟨rfl, e2⟩ := dk_at (v1.same k2.fr)
    cases v2 with | dat v2 =>
      cases v2
      refine ⟨p, .int n, rfl, ?_, q _ _ Ω2 H2 hp (k2.anchor k1.fr) (.dat (.int n))⟩
      rw [← ev]
      exact DGet.k (k := .inr w) e2
theorem e_dget1 (h : EW K te Γ Ω fun a Ω1 => ∃ p kvs, a = .fn p [(p, .dK kvs)] [] ∧ EW K ty Γ Ω1 fun b Ω2 => ∃ w o, b = .dat (.str w) ∧ valV kvs (.inr w) = o.map V.int ∧ P (.dat (optI o)) Ω2) : EW K (tDGet1 te ty) Γ Ω P := fun F σ H Q k q =>
  h F σ H _ k fun a v Ω1 H1 ⟨p, kvs, ea, h1⟩ k1 v1 => by
    subst ea
    obtain ⟨rfl, e1⟩ := dk_at v1
    refine ⟨p, rfl, .inl ⟨kvs, .inl e1⟩, h1 (Fz Ω1 H1) σ H1 _ k1.re fun b x Ω2 H2 ⟨w, o, eb, ev, hp⟩ k2 v2 => ?_⟩
    subst eb
    obtain ⟨_, e2⟩ := dk_at (v1.same k2.fr)
    cases v2 with | dat v2 =>
      cases v2
      refine ⟨valV kvs (.inr w), DGet.k (k := .inr w) e2, ?_⟩
      rw [ev]
      cases o with
      | none => exact q _ _ Ω2 H2 hp (k2.anchor k1.fr) (.dat .non)
      | some n => exact q _ _ Ω2 H2 hp (k2.anchor k1.fr) (.dat (.int n))
theorem e_dget2 (h : EW K te Γ Ω fun a Ω1 => ∃ p kvs, a = .fn p [(p, .dK kvs)] [] ∧ EW K ty Γ Ω1 fun b Ω2 => EW K tx Γ Ω2 fun c Ω3 => ∃ w o, b = .dat (.str w) ∧ valV kvs (.inr w) = o.map V.int ∧ (∀ n, o = some n → P (.dat (.int n)) Ω3) ∧ (o = none → P c Ω3)) : EW K (tDGet2 te ty tx) Γ Ω P := fun F σ H Q k q =>
  h F σ H _ k fun a v Ω1 H1 ⟨p, kvs, ea, h1⟩ k1 v1 => by
    subst ea
    obtain ⟨rfl, e1⟩ := dk_at v1
    refine ⟨p, rfl, .inl ⟨kvs, .inl e1⟩, h1 (Fz Ω1 H1) σ H1 _ k1.re fun b x Ω2 H2 h2 k2 v2 => h2 (Fz Ω2 H2) σ H2 _ k2.re fun c y Ω3 H3 ⟨w, o, eb, ev, hp, hn⟩ k3 v3 => ?_⟩
    subst eb
    obtain ⟨_, e2⟩ := dk_at ((v1.same k2.fr).same k3.fr)
    cases v2 with | dat v2 =>
      cases v2
      refine ⟨valV kvs (.inr w), DGet.k (k := .inr w) e2, ?_⟩
      rw [ev]
      cases o with
      | none => exact q _ _ Ω3 H3 (hn rfl) ((k3.anchor k2.fr).anchor k1.fr) v3
      | some n => exact q _ _ Ω3 H3 (hp n rfl) ((k3.anchor k2.fr).anchor k1.fr) (.dat (.int n))
end
end Dat

set_option Elab.async false
set_option linter.all false
set_option maxRecDepth 100000
set_option maxHeartbeats 1000000
/-! nested data of small integers: shown within bounds -/
namespace Shw
open PySem PySem.Spec PyProof.Rows L2
structure Sh (d : PyData) (k w : Nat) : Prop where
  s : d.showable = true
  n : d.hasDict = false
  k : d.depth ≤ k
  l : d.leavesShort 13 = true
  w : d.weight ≤ w
theorem Sh.mono {d : PyData} {k w k' w' : Nat} (h : Sh d k w) (hk : k ≤ k') (hw : w ≤ w') : Sh d k' w' := ⟨h.s, h.n, Nat.le_trans h.k hk, h.l, Nat.le_trans h.w hw⟩
theorem log_lt {n k : Nat} (h : n < 2 ^ k) : n = 0 ∨ n.log2 < k := by
  by_cases z : n = 0
  · exact .inl z
  · exact .inr ((Nat.log2_lt z).mpr h)
theorem Sh.int {i : Int} (h : i.natAbs < 10 ^ 12) : Sh (.int i) 0 40 := by
  have e : (10 : Nat) ^ 12 < 2 ^ 40 := by decide
  have hl := log_lt (k := 40) (Nat.lt_trans h e)
  refine ⟨?_, by simp [PyData.hasDict], by simp [PyData.depth], ?_, ?_⟩
  · show decide (i.natAbs.log2 < 1920) = true
    refine decide_eq_true ?_
    rcases hl with z | z
    · rw [z]
      decide
    · omega
  · simp only [PyData.leavesShort, decide_eq_true_eq]
    exact PyData.shown_int_le h
  · simp only [PyData.weight]
    split
    · omega
    · rcases hl with z | z
      · rw [z]
        decide
      · omega
theorem sh_all {k w : Nat} : ∀ {ds : List PyData}, (∀ d ∈ ds, Sh d k w) → PyData.showableAll ds = true ∧ PyData.hasDictAll ds = false ∧ PyData.depthAll ds ≤ k ∧ PyData.leavesShortAll 13 ds = true ∧ PyData.weightAll ds ≤ ds.length * (w + 1)
  | [], _ => ⟨by simp [PyData.showableAll], by simp [PyData.hasDictAll], by simp [PyData.depthAll], by simp [PyData.leavesShortAll], by simp [PyData.weightAll]⟩
  | d :: r, h => by
    obtain ⟨a, b, c, e, f⟩ := sh_all (ds := r) fun y m => h y (List.mem_cons_of_mem _ m)
    have g := h d List.mem_cons_self
    refine ⟨by simp [PyData.showableAll, g.s, a], by simp [PyData.hasDictAll, g.n, b], ?_, by simp [PyData.leavesShortAll, g.l, e], ?_⟩
    · simp only [PyData.depthAll]
      exact Nat.max_le.mpr ⟨g.k, c⟩
    · simp only [PyData.weightAll, List.length_cons]
      have := g.w
      have e2 : (r.length + 1) * (w + 1) = r.length * (w + 1) + (w + 1) := Nat.succ_mul _ _
      omega
theorem Sh.tup {ds : List PyData} {k w n : Nat} (h : ∀ d ∈ ds, Sh d k w) (hn : ds.length ≤ n) : Sh (.tuple ds) (k + 1) (n * (w + 1)) := by
  obtain ⟨a, b, c, e, f⟩ := sh_all h
  have m := Nat.mul_le_mul_right (w + 1) hn
  exact ⟨by simp only [PyData.showable, a], by simp only [PyData.hasDict, b], by simp only [PyData.depth]; omega, by simp only [PyData.leavesShort, e], by simp only [PyData.weight]; omega⟩
theorem Sh.lst {ds : List PyData} {k w n : Nat} (h : ∀ d ∈ ds, Sh d k w) (hn : ds.length ≤ n) : Sh (.list ds) (k + 1) (n * (w + 1)) := by
  obtain ⟨a, b, c, e, f⟩ := sh_all h
  have m := Nat.mul_le_mul_right (w + 1) hn
  exact ⟨by simp only [PyData.showable, a], by simp only [PyData.hasDict, b], by simp only [PyData.depth]; omega, by simp only [PyData.leavesShort, e], by simp only [PyData.weight]; omega⟩
theorem Sh.fits {d : PyData} {k w : Nat} (h : Sh d k w) (hw : w ≤ 2 ^ 20) : d.shown.length ≤ sizeLine := PyData.shown_fits (B := 13) (by decide) (by decide) h.l (Nat.le_trans h.w hw)
end Shw

set_option Elab.async false
set_option linter.all false
set_option maxRecDepth 100000
set_option maxHeartbeats 2000000
namespace Grd
open PySem PySem.Spec PyProof.Rows L2 LamX NdefX Clo
/-- the law's own call, from the head: one table (that of the code object cw), the script -/
theorem law_callG {P : Program} {w : World} {K : PySem.W.Frag} {mg mb : Str → Option Value} {k : Nat} {fa a cw Pw : Addr} {fd : FuncData} {x : Str} {sp : Sp} {s₁ : Shared} {vs : List Value} {ns : List Int}
    (KX : K.In s₁.heap) (hns : s₁.heap.Ns mainGlobals mg) (hb : s₁.heap.Ns builtinsNs mb) (hbb : ∀ x : Str, x ≠ "__name__" → mb x = bootBuiltins x) (hlim : s₁.heap.NoLimit) (hg : s₁.gens = #[])
    (hT : s₁.heap.get? Pw = some { cls := .none, data := .fields #[] }) (nT : K.lookup Pw = none) (C : PySem.W.CodeHd s₁.heap cw Pw)
    (hbm : ∃ (bm : Addr) (ob : Obj), mg "__builtins__" = some (.ref bm) ∧ bm ≠ builtinsNs ∧ s₁.heap.get? bm = some ob ∧ ob.cls = .type "module" ∧ ob.dict = some builtinsNs ∧ ob.data = .plain)
    (ha : s₁.heap.get? a = some { cls := .type "list", data := .seq vs.toArray }) (hi : IntsAre vs ns) (hl : ns.length ≤ sizeLine) (hr : Room k callerA)
    (F : ∀ base : Heap, K.In base → base.Ns mainGlobals mg → TabB base mg cw Pw → FnG P w K mg base CX0 k fa fd [x] sp) (hbind : ∀ (s : Shared) (u : Value), BindsTo s fd ⟨[u], []⟩ [(x, u)])
    (hsp : ∀ H : Hp, H Pw = some (.tbl #[]) → SqL K H a (ns.map V.int) → sp [.ref a] H (fun v _ => v = .bl true) fun _ _ _ => False) :
    codeAny (model P w) callerA (.call (.ref fa) ⟨[.ref a], []⟩) (fun r s' => r = .ok (.ret (.bool true)) ∧ OldK s₁.heap s'.heap ∧ s'.os = s₁.os ∧ AllBare s'.gens) s₁ := by
  have rv := vals_ints hi
  have lenV := hi.length
  have aP : a ≠ Pw := fun z => by
    rw [z, hT] at ha
    have z' : (Data.fields #[] : Data) = Data.seq vs.toArray _ := congrArg Obj.data (Option.some.inj ha)
    cases z'
  -- what is tracked: the table, and the script if the text has not written it
  obtain ⟨scr, hscr⟩ : ∃ scr : Option HO, scr = (match K.lookup a with | some _ => none | none => some (HO.frz { cls := .type "list", data := .seq vs.toArray } (.lst (ns.map V.int)))) := ⟨_, rfl⟩
  obtain ⟨H, hH⟩ : ∃ H : Hp, H = fun b => if b = Pw then some (.tbl #[]) else if b = a then scr else none := ⟨_, rfl⟩
  have HP : H Pw = some (.tbl #[]) := by
    rw [hH]
    exact if_pos rfl
  have Ha : H a = scr := by
    rw [hH]
    show (if a = Pw then _ else if a = a then scr else none) = scr
    rw [if_neg aP, if_pos rfl]
  have Hn : ∀ b, b ≠ Pw → b ≠ a → H b = none := fun b h1 h2 => by
    rw [hH]
    show (if b = Pw then _ else if b = a then scr else none) = none
    rw [if_neg h1, if_neg h2]
  have scrC : scr = none ∨ scr = some (HO.frz { cls := .type "list", data := .seq vs.toArray } (.lst (ns.map V.int))) := by
    rw [hscr]
    cases K.lookup a with
    | some o => exact .inl rfl
    | none => exact .inr rfl
  have free : ∀ {b : Addr} {o : Obj}, s₁.heap.get? b = some o → (∀ v n, o.data ≠ .seq v n) → o.data ≠ .fields #[] → H b = none := fun {b o} e h1 h2 => by
    refine Hn b (fun z => ?_) fun z => ?_
    · rw [z, hT] at e
      cases e
      exact h2 rfl
    · rw [z, ha] at e
      cases e
      exact h1 _ _ rfl
  have freeD : ∀ {b : Addr} {o : Obj} {es : Array DictEntry} {n : Nat}, s₁.heap.get? b = some o → o.data = .dict es n → H b = none := fun {b o es n} e d =>
    free e (fun v m z => by rw [d] at z; cases z) fun z => by rw [d] at z; cases z
  have ns_ : ∀ {b : Addr} {m : Str → Option Value}, s₁.heap.Ns b m → (hidT s₁.heap H).Ns b m := fun {b m} h => by
    obtain ⟨o, es, ep, e, d, r⟩ := h
    exact ⟨o, es, ep, hidT_get e (freeD e d), d, r⟩
  have kb : K.In (hidT s₁.heap H) := fun b o e => by
    refine hidT_get (KX b o e) ?_
    by_cases h1 : b = Pw
    · rw [h1, nT] at e
      cases e
    · by_cases h2 : b = a
      · rw [h2, Ha, hscr]
        rw [h2] at e
        rw [e]
      · exact Hn b h1 h2
  have hok : HOk P w H s₁.heap := fun b u e => by
    by_cases h1 : b = Pw
    · rw [h1, HP] at e
      cases e
      rw [h1]
      exact hT
    · by_cases h2 : b = a
      · rw [h2, Ha] at e
        rcases scrC with z | z
        · rw [z] at e
          cases e
        · rw [z] at e
          cases e
          rw [h2]
          exact ⟨ha, by rw [List.length_map]; exact hl, vs, _, rv, ha⟩
      · rw [Hn b h1 h2] at e
        cases e
  have md : L2.Mod K mg (hidT s₁.heap H) := by
    obtain ⟨mc, h1, h2⟩ := hlim
    exact ⟨kb, ns_ hns, ⟨mb, ns_ hb, hbb⟩, mc, ns_ h1, h2⟩
  have tb : TabB (hidT s₁.heap H) mg cw Pw := by
    constructor
    · obtain ⟨o, us, file, tf, flags, tg, inF, text, tt, e1, r1, r2, r3, r4, r5, r6, r7, r8, hne⟩ := C
      refine ⟨o, us, file, tf, flags, tg, inF, text, tt, hidT_get e1 (free e1 (fun v m z => ?_) fun z => ?_), r1, r2, r3, r4, r5, r6, r7, r8, hne⟩
      · rw [r2] at z
        cases z
      · rw [r2] at z
        cases z
        simp at r3
    · obtain ⟨bm, ob, b1, b2, b3, b4, b5, b6⟩ := hbm
      have nG : bm ≠ mainGlobals := fun z => by
        obtain ⟨o, es, ep, e, hd, _⟩ := hns
        rw [z, e] at b3
        cases b3
        rw [hd] at b6
        cases b6
      have nP : bm ≠ Pw := fun z => by
        rw [z, hT] at b3
        cases b3
        cases b6
      exact ⟨bm, ob, b1, b2, nG, nP, hidT_get b3 (free b3 (fun v m z => by rw [b6] at z; cases z) fun z => by rw [b6] at z; cases z), b4, b5, b6⟩
    · intro z
      obtain ⟨o, es, ep, e, hd, _⟩ := hns
      rw [z, hT] at e
      cases e
      cases hd
  have e0 : Env0 P w K mg (hidT s₁.heap H) callerA [] s₁ H := by
    refine ⟨rfl, md, fun b o e => of_hidT e, Nat.le_of_eq (hidT_size _ _), trivial, fun b hb => ?_, hok, .of_eq hg⟩
    cases (show b ∈ ([] : List Addr) from hb)
  have sq : SqL K H a (ns.map V.int) := by
    cases hk : K.lookup a with
    | some o =>
      have e := KX a o hk
      rw [ha] at e
      cases e
      exact .inr ⟨_, vs.toArray, _, hk, rfl, rfl, rfl, by rw [List.size_toArray, lenV]; exact hl, by simpa using rv⟩
    | none =>
      refine .inl (.inr ⟨{ cls := .type "list", data := .seq vs.toArray }, ?_⟩)
      rw [Ha, hscr, hk]
  refine codeAny_mono ((F _ kb (ns_ hns) tb).run callerA [] s₁ H ⟨[.ref a], []⟩ [.ref a] [.ref a] _ _ hr rfl e0 (hbind s₁ (.ref a)) (.cons rfl .nil) (hsp H HP sq)) fun r s' h => ?_
  cases r with
  | error e => exact (show False from h).elim
  | ok fl =>
    cases fl with
    | next => exact (show False from h).elim
    | brk => exact (show False from h).elim
    | cont => exact (show False from h).elim
    | ret u =>
      obtain ⟨v, H', os, bare, un, hok', r', q⟩ := h
      cases (show v = .bl true from q)
      cases (show u = Value.bool true from r')
      have key : ∀ b o, b ≠ Pw → s₁.heap.get? b = some o → s'.heap.get? b = some o := fun b o nb e => by
        by_cases h2 : b = a
        · rcases scrC with z | z
          · exact un.keep b o e (by rw [h2, Ha, z]) (fun q => by cases (show b ∈ ([] : List Addr) from q)) (fun q => by cases q)
          · have z1 : H b = some (HO.frz { cls := .type "list", data := .seq vs.toArray } (.lst (ns.map V.int))) := by rw [h2, Ha, z]
            obtain ⟨e1, _⟩ := hok b _ z1
            obtain ⟨e2, _⟩ := hok' b _ (un.frzs b _ _ z1)
            rw [e] at e1
            cases e1
            exact e2
        · exact un.keep b o e (Hn b nb h2) (fun q => by cases (show b ∈ ([] : List Addr) from q)) (fun q => by cases q)
      obtain ⟨more, zt⟩ := un.tbls Pw #[] HP
      have grown : s'.heap.get? Pw = some { cls := .none, data := .fields (#[] ++ more) } := hok' Pw _ zt
      refine ⟨rfl, ⟨fun b o e => ?_, fun b o e => ?_⟩, os, bare⟩
      · by_cases h1 : b = Pw
        · rw [h1] at e ⊢
          rw [hT] at e
          cases e
          exact .inr (.inl ⟨(C.tab hT).isCodeTable, rfl, #[], more, rfl, grown⟩)
        · exact .inl (key b o h1 e)
      · by_cases h1 : b = Pw
        · rw [h1]
          exact ⟨_, grown⟩
        · exact ⟨o, key b o h1 e⟩
/-- the end of a law's row -/
theorem walk_ofG {l : PySem.W.OpenLaw} {n k : Nat} {q : Program} {loose : List Str} {XP : (Str → Option Value) → Heap → Prop} {YP : World → Heap → Prop} {d : DefRec} {K : Params → PySem.W.Frag} {x : Str}
    (hn : l.most = some n) (hn2 : n ≤ sizeLine) (hdf : d.params.defaults = []) (hr : Room k callerA) (hY : ∀ (w : World) (h : Heap), YP w h → (K w.params).In h)
    (F : ∀ (w : World) (mg : Str → Option Value) (fa : Addr) (h : Heap), YP w h → (K w.params).In h → h.Ns mainGlobals mg → mg d.name = some (.ref fa) →
      ∃ (fd : FuncData) (cw Pw : Addr) (sp : Sp), h.get? Pw = some { cls := .none, data := .fields #[] } ∧ (K w.params).lookup Pw = none ∧ PySem.W.CodeHd h cw Pw ∧ (∀ (s : Shared) (u : Value), BindsTo s fd ⟨[u], []⟩ [(x, u)]) ∧
        (∀ (H : Hp) (a : Addr) (ns : List Int), ns.length ≤ n → H Pw = some (.tbl #[]) → SqL (K w.params) H a (ns.map V.int) → sp [.ref a] H (fun v _ => v = .bl true) fun _ _ _ => False) ∧
        ∀ base : Heap, (K w.params).In base → base.Ns mainGlobals mg → TabB base mg cw Pw → FnG l.prog w (K w.params) mg base CX0 k fa fd [x] sp) :
    PySem.W.WalkO q loose XP YP l.row.toRowW d [] (fun f vs => PySem.call f vs) := by
  refine Att.attach_callB hn hdf fun w s₀ s₁ mg mb fa o pm cd doc a vs ns G Y ho hd hcd hmg hobj hints hlen hbits hg => ?_
  have KX := hY w _ Y
  obtain ⟨fd, cw, Pw, sp, hT, nT, C, hb, hsp, hF⟩ := F w mg fa _ Y KX G.T.g hmg
  exact law_callG KX G.T.g G.T.b G.T.builtins G.T.nolimit hg hT nT C G.T.bmain hobj hints (Nat.le_trans hlen hn2) hr hF hb fun H hH hS => hsp H a ns hlen hH hS
end Grd

set_option Elab.async false
set_option linter.all false
set_option maxRecDepth 100000
set_option maxHeartbeats 4000000
namespace K38
open PySem PySem.Spec PyProof.Rows L2 Dat LamX NdefX Clo
def topS (i : Nat) : Stmt := PySem.Challenge.pw_parlourday_k38_counts_of_bills.main.body.getD i (.Pass ⟨0, 0, 0, 0⟩)
abbrev s_fitting_row : Stmt := topS 1
abbrev N_fitting_row : List Str := ["rule", "mood", "looks", "deeds", "index", "row"]
theorem sc_fitting_row : FnScope ["rule", "mood", "looks", "deeds", "index", "row"] ["rule", "mood", "looks", "deeds"] (defScope s_fitting_row) := ⟨rfl, rfl, rfl, by decide +kernel, rfl, by decide +kernel, by decide +kernel⟩
abbrev s_within : Stmt := topS 2
abbrev N_within : List Str := ["looks", "spans", "look", "low", "high"]
theorem sc_within : FnScope ["looks", "spans", "look", "low", "high"] ["looks", "spans"] (defScope s_within) := ⟨rfl, rfl, rfl, by decide +kernel, rfl, by decide +kernel, by decide +kernel⟩
abbrev s_come_in : Stmt := topS 3
abbrev N_come_in : List Str := ["setup", "line", "singles", "comers", "groups", "coming", "away", "size", "found"]
theorem sc_come_in : FnScope ["setup", "line", "singles", "comers", "groups", "coming", "away", "size", "found"] ["setup", "line", "singles", "comers"] (defScope s_come_in) := ⟨rfl, rfl, rfl, by decide +kernel, rfl, by decide +kernel, by decide +kernel⟩
abbrev s_bench_deeds : Stmt := topS 4
abbrev N_bench_deeds : List Str := ["line", "singles", "left", "deeds"]
theorem sc_bench_deeds : FnScope ["line", "singles", "left", "deeds"] ["line", "singles", "left"] (defScope s_bench_deeds) := ⟨rfl, rfl, rfl, by decide +kernel, rfl, by decide +kernel, by decide +kernel⟩
abbrev s_fill_bench : Stmt := topS 5
abbrev N_fill_bench : List Str := ["setup", "rule", "standing", "portions", "line", "singles", "mood", "left", "deeds", "used", "looks", "index", "deed", "size"]
theorem sc_fill_bench : FnScope ["setup", "rule", "standing", "portions", "line", "singles", "mood", "left", "deeds", "used", "looks", "index", "deed", "size"] ["setup", "rule", "standing", "portions"] (defScope s_fill_bench) := ⟨rfl, rfl, rfl, by decide +kernel, rfl, by decide +kernel, by decide +kernel⟩
abbrev s_bench_beat : Stmt := topS 6
abbrev N_bench_beat : List Str := ["setup", "rule", "standing", "comers", "portions", "line", "singles", "away", "after", "deeds", "empty", "used"]
theorem sc_bench_beat : FnScope ["setup", "rule", "standing", "comers", "portions", "line", "singles", "away", "after", "deeds", "empty", "used"] ["setup", "rule", "standing", "comers", "portions"] (defScope s_bench_beat) := ⟨rfl, rfl, rfl, by decide +kernel, rfl, by decide +kernel, by decide +kernel⟩
abbrev s_seated : Stmt := topS 7
abbrev N_seated : List Str := ["deeds", "size", "_"]
theorem sc_seated : FnScope ["deeds", "size", "_"] ["deeds"] (defScope s_seated) := ⟨rfl, rfl, rfl, by decide +kernel, rfl, by decide +kernel, by decide +kernel⟩
abbrev s_portions_open : Stmt := topS 11
abbrev N_portions_open : List Str := ["tubs", "portions", "_"]
theorem sc_portions_open : FnScope ["tubs", "portions", "_"] ["tubs"] (defScope s_portions_open) := ⟨rfl, rfl, rfl, by decide +kernel, rfl, by decide +kernel, by decide +kernel⟩
abbrev s_tub_deeds : Stmt := topS 12
abbrev N_tub_deeds : List Str := ["tubs"]
theorem sc_tub_deeds : FnScope ["tubs"] ["tubs"] (defScope s_tub_deeds) := ⟨rfl, rfl, rfl, by decide +kernel, rfl, by decide +kernel, by decide +kernel⟩
abbrev s_with_tub : Stmt := topS 13
abbrev N_with_tub : List Str := ["setup", "tubs", "deed"]
theorem sc_with_tub : FnScope ["setup", "tubs", "deed"] ["setup", "tubs", "deed"] (defScope s_with_tub) := ⟨rfl, rfl, rfl, by decide +kernel, rfl, by decide +kernel, by decide +kernel⟩
abbrev s_open_tubs : Stmt := topS 14
abbrev N_open_tubs : List Str := ["setup", "rule", "standing", "asked", "waiting", "tubs", "mood", "opened", "used", "looks", "index", "deed"]
theorem sc_open_tubs : FnScope ["setup", "rule", "standing", "asked", "waiting", "tubs", "mood", "opened", "used", "looks", "index", "deed"] ["setup", "rule", "standing", "asked", "waiting"] (defScope s_open_tubs) := ⟨rfl, rfl, rfl, by decide +kernel, rfl, by decide +kernel, by decide +kernel⟩
abbrev s_eaten_of : Stmt := topS 15
abbrev N_eaten_of : List Str := ["tubs", "asked", "eaten", "_", "portions"]
theorem sc_eaten_of : FnScope ["tubs", "asked", "eaten", "_", "portions"] ["tubs", "asked"] (defScope s_eaten_of) := ⟨rfl, rfl, rfl, by decide +kernel, rfl, by decide +kernel, by decide +kernel⟩
abbrev s_end_beat : Stmt := topS 16
abbrev N_end_beat : List Str := ["setup", "tubs", "asked", "eaten", "older", "age", "portions", "gone", "melted", "tub"]
theorem sc_end_beat : FnScope ["setup", "tubs", "asked", "eaten", "older", "age", "portions", "gone", "melted", "tub"] ["setup", "tubs", "asked"] (defScope s_end_beat) := ⟨rfl, rfl, rfl, by decide +kernel, rfl, by decide +kernel, by decide +kernel⟩
abbrev s_tub_beat : Stmt := topS 17
abbrev N_tub_beat : List Str := ["setup", "rule", "standing", "asked", "waiting", "tubs", "mood", "opened", "used", "left", "unserved", "melted"]
theorem sc_tub_beat : FnScope ["setup", "rule", "standing", "asked", "waiting", "tubs", "mood", "opened", "used", "left", "unserved", "melted"] ["setup", "rule", "standing", "asked", "waiting"] (defScope s_tub_beat) := ⟨rfl, rfl, rfl, by decide +kernel, rfl, by decide +kernel, by decide +kernel⟩
abbrev s_tubs_cost : Stmt := topS 18
abbrev N_tubs_cost : List Str := ["setup", "unserved", "melted"]
theorem sc_tubs_cost : FnScope ["setup", "unserved", "melted"] ["setup", "unserved", "melted"] (defScope s_tubs_cost) := ⟨rfl, rfl, rfl, by decide +kernel, rfl, by decide +kernel, by decide +kernel⟩
abbrev s_is_whole : Stmt := topS 27
abbrev N_is_whole : List Str := ["thing"]
theorem sc_is_whole : FnScope ["thing"] ["thing"] (defScope s_is_whole) := ⟨rfl, rfl, rfl, by decide +kernel, rfl, by decide +kernel, by decide +kernel⟩
abbrev s_is_whole_in : Stmt := topS 28
abbrev N_is_whole_in : List Str := ["thing", "low", "high"]
theorem sc_is_whole_in : FnScope ["thing", "low", "high"] ["thing", "low", "high"] (defScope s_is_whole_in) := ⟨rfl, rfl, rfl, by decide +kernel, rfl, by decide +kernel, by decide +kernel⟩
abbrev s_is_pair : Stmt := topS 29
abbrev N_is_pair : List Str := ["thing"]
theorem sc_is_pair : FnScope ["thing"] ["thing"] (defScope s_is_pair) := ⟨rfl, rfl, rfl, by decide +kernel, rfl, by decide +kernel, by decide +kernel⟩
abbrev s_fault_in : Stmt := topS 30
abbrev N_fault_in : List Str := ["thing", "fits", "most", "place", "entry"]
theorem sc_fault_in : FnScope ["thing", "fits", "most", "place", "entry"] ["thing", "fits", "most"] (defScope s_fault_in) := ⟨rfl, rfl, rfl, by decide +kernel, rfl, by decide +kernel, by decide +kernel⟩
abbrev s_is_setup : Stmt := topS 39
abbrev N_is_setup : List Str := ["thing", "seats", "sizes", "rooms", "comers", "kinds", "life", "prices", "price"]
theorem sc_is_setup : FnScope ["thing", "seats", "sizes", "rooms", "comers", "kinds", "life", "prices", "price"] ["thing"] (defScope s_is_setup) := ⟨rfl, rfl, rfl, by decide +kernel, rfl, by decide +kernel, by decide +kernel⟩
abbrev s_is_choice : Stmt := topS 40
abbrev N_is_choice : List Str := ["thing", "most", "part"]
theorem sc_is_choice : FnScope ["thing", "most", "part"] ["thing", "most"] (defScope s_is_choice) := ⟨rfl, rfl, rfl, by decide +kernel, rfl, by decide +kernel, by decide +kernel⟩
abbrev s_check_setup : Stmt := topS 41
abbrev N_check_setup : List Str := ["thing"]
theorem sc_check_setup : FnScope ["thing"] ["thing"] (defScope s_check_setup) := ⟨rfl, rfl, rfl, by decide +kernel, rfl, by decide +kernel, by decide +kernel⟩
abbrev s_is_comers : Stmt := topS 42
abbrev N_is_comers : List Str := ["setup", "thing", "size"]
theorem sc_is_comers : FnScope ["setup", "thing", "size"] ["setup", "thing"] (defScope s_is_comers) := ⟨rfl, rfl, rfl, by decide +kernel, rfl, by decide +kernel, by decide +kernel⟩
abbrev s_check_row : Stmt := topS 43
abbrev N_check_row : List Str := ["setup", "thing", "most", "fault"]
theorem sc_check_row : FnScope ["setup", "thing", "most", "fault"] ["setup", "thing", "most"] (defScope s_check_row) := ⟨rfl, rfl, rfl, by decide +kernel, rfl, by decide +kernel, by decide +kernel⟩
abbrev s_is_half : Stmt := topS 44
abbrev N_is_half : List Str := ["thing", "deeds", "row"]
theorem sc_is_half : FnScope ["thing", "deeds", "row"] ["thing", "deeds"] (defScope s_is_half) := ⟨rfl, rfl, rfl, by decide +kernel, rfl, by decide +kernel, by decide +kernel⟩
abbrev s_is_rule_row : Stmt := topS 45
abbrev N_is_rule_row : List Str := ["thing", "deeds", "part"]
theorem sc_is_rule_row : FnScope ["thing", "deeds", "part"] ["thing", "deeds"] (defScope s_is_rule_row) := ⟨rfl, rfl, rfl, by decide +kernel, rfl, by decide +kernel, by decide +kernel⟩
abbrev s_is_span : Stmt := topS 46
abbrev N_is_span : List Str := ["thing"]
theorem sc_is_span : FnScope ["thing"] ["thing"] (defScope s_is_span) := ⟨rfl, rfl, rfl, by decide +kernel, rfl, by decide +kernel, by decide +kernel⟩
abbrev s_is_seats : Stmt := topS 47
abbrev N_is_seats : List Str := ["thing"]
theorem sc_is_seats : FnScope ["thing"] ["thing"] (defScope s_is_seats) := ⟨rfl, rfl, rfl, by decide +kernel, rfl, by decide +kernel, by decide +kernel⟩
abbrev s_is_tubs : Stmt := topS 50
abbrev N_is_tubs : List Str := ["thing"]
theorem sc_is_tubs : FnScope ["thing"] ["thing"] (defScope s_is_tubs) := ⟨rfl, rfl, rfl, by decide +kernel, rfl, by decide +kernel, by decide +kernel⟩
abbrev s_is_rule : Stmt := topS 54
abbrev N_is_rule : List Str := ["thing"]
theorem sc_is_rule : FnScope ["thing"] ["thing"] (defScope s_is_rule) := ⟨rfl, rfl, rfl, by decide +kernel, rfl, by decide +kernel, by decide +kernel⟩
abbrev s_check_rule : Stmt := topS 55
abbrev N_check_rule : List Str := ["thing"]
theorem sc_check_rule : FnScope ["thing"] ["thing"] (defScope s_check_rule) := ⟨rfl, rfl, rfl, by decide +kernel, rfl, by decide +kernel, by decide +kernel⟩
abbrev s_check_what : Stmt := topS 56
abbrev N_check_what : List Str := ["thing"]
theorem sc_check_what : FnScope ["thing"] ["thing"] (defScope s_check_what) := ⟨rfl, rfl, rfl, by decide +kernel, rfl, by decide +kernel, by decide +kernel⟩
abbrev s_house_beat : Stmt := topS 57
abbrev N_house_beat : List Str := ["setup", "rule", "standing", "comers", "line", "singles", "tubs", "moods", "seats_left", "told", "seat_rows", "waiting", "tubs_left", "word", "tub_rows", "after"]
theorem sc_house_beat : FnScope ["setup", "rule", "standing", "comers", "line", "singles", "tubs", "moods", "seats_left", "told", "seat_rows", "waiting", "tubs_left", "word", "tub_rows", "after"] ["setup", "rule", "standing", "comers"] (defScope s_house_beat) := ⟨rfl, rfl, rfl, by decide +kernel, rfl, by decide +kernel, by decide +kernel⟩
abbrev s_run_house : Stmt := topS 58
abbrev N_run_house : List Str := ["setup", "rule", "row", "standing", "bills", "comers", "bill", "_"]
theorem sc_run_house : FnScope ["setup", "rule", "row", "standing", "bills", "comers", "bill", "_"] ["setup", "rule", "row", "standing"] (defScope s_run_house) := ⟨rfl, rfl, rfl, by decide +kernel, rfl, by decide +kernel, by decide +kernel⟩
abbrev s_check_house_row : Stmt := topS 59
abbrev N_check_house_row : List Str := ["setup", "rule", "row"]
theorem sc_check_house_row : FnScope ["setup", "rule", "row"] ["setup", "rule", "row"] (defScope s_check_house_row) := ⟨rfl, rfl, rfl, by decide +kernel, rfl, by decide +kernel, by decide +kernel⟩
abbrev s_bills_of : Stmt := topS 60
abbrev N_bills_of : List Str := ["setup", "rule", "row", "_", "bills"]
theorem sc_bills_of : FnScope ["setup", "rule", "row", "_", "bills"] ["setup", "rule", "row"] (defScope s_bills_of) := ⟨rfl, rfl, rfl, by decide +kernel, rfl, by decide +kernel, by decide +kernel⟩
abbrev s_is_deed : Stmt := topS 61
abbrev N_is_deed : List Str := ["setup", "thing"]
theorem sc_is_deed : FnScope ["setup", "thing"] ["setup", "thing"] (defScope s_is_deed) := ⟨rfl, rfl, rfl, by decide +kernel, rfl, by decide +kernel, by decide +kernel⟩
abbrev s_is_bill : Stmt := topS 62
abbrev N_is_bill : List Str := ["setup", "thing", "deeds", "empty", "away", "opened", "served", "unserved", "melted", "deed", "sat", "kinds", "portions"]
theorem sc_is_bill : FnScope ["setup", "thing", "deeds", "empty", "away", "opened", "served", "unserved", "melted", "deed", "sat", "kinds", "portions"] ["setup", "thing"] (defScope s_is_bill) := ⟨rfl, rfl, rfl, by decide +kernel, rfl, by decide +kernel, by decide +kernel⟩
abbrev s_count_of : Stmt := topS 63
abbrev N_count_of : List Str := ["setup", "what", "bill"]
theorem sc_count_of : FnScope ["setup", "what", "bill"] ["setup", "what", "bill"] (defScope s_count_of) := ⟨rfl, rfl, rfl, by decide +kernel, rfl, by decide +kernel, by decide +kernel⟩
abbrev s_bill_count : Stmt := topS 64
abbrev N_bill_count : List Str := ["setup", "what", "bill", "deeds", "empty", "away", "_", "served", "unserved", "melted", "counts"]
theorem sc_bill_count : FnScope ["setup", "what", "bill", "deeds", "empty", "away", "_", "served", "unserved", "melted", "counts"] ["setup", "what", "bill"] (defScope s_bill_count) := ⟨rfl, rfl, rfl, by decide +kernel, rfl, by decide +kernel, by decide +kernel⟩
abbrev s_totals_of : Stmt := topS 65
abbrev N_totals_of : List Str := ["setup", "rule", "row", "_", "bills"]
theorem sc_totals_of : FnScope ["setup", "rule", "row", "_", "bills"] ["setup", "rule", "row"] (defScope s_totals_of) := ⟨rfl, rfl, rfl, by decide +kernel, rfl, by decide +kernel, by decide +kernel⟩
abbrev s_bill_totals : Stmt := topS 66
abbrev N_bill_totals : List Str := ["setup", "bills", "what", "bill"]
theorem sc_bill_totals : FnScope ["setup", "bills", "what", "bill"] ["setup", "bills"] (defScope s_bill_totals) := ⟨rfl, rfl, rfl, by decide +kernel, rfl, by decide +kernel, by decide +kernel⟩
abbrev s__law_source : Stmt := topS 68
abbrev N__law_source : List Str := ["_law_script", "_law_index", "_law_cell"]
theorem sc__law_source : FnScope ["_law_script", "_law_index", "_law_cell"] ["_law_script", "_law_index"] (defScope s__law_source) := ⟨rfl, rfl, rfl, by decide +kernel, rfl, by decide +kernel, by decide +kernel⟩
abbrev s__law_draw : Stmt := topS 69
abbrev N__law_draw : List Str := ["_law_source_here", "_law_bound", "_law_digit", "_law_mixed"]
theorem sc__law_draw : FnScope ["_law_source_here", "_law_bound", "_law_digit", "_law_mixed"] ["_law_source_here", "_law_bound"] (defScope s__law_draw) := ⟨rfl, rfl, rfl, by decide +kernel, rfl, by decide +kernel, by decide +kernel⟩
abbrev s__law_span : Stmt := topS 70
abbrev N__law_span : List Str := ["_law_source_here", "_law_low"]
theorem sc__law_span : FnScope ["_law_source_here", "_law_low"] ["_law_source_here"] (defScope s__law_span) := ⟨rfl, rfl, rfl, by decide +kernel, rfl, by decide +kernel, by decide +kernel⟩
abbrev s__law_rows : Stmt := topS 71
abbrev N__law_rows : List Str := ["_law_source_here", "_law_deeds", "_law_many", "_law_moods", "_law_found", "_law_number", "_law_spans", "_law_place", "_law_deed"]
theorem sc__law_rows : FnScope ["_law_source_here", "_law_deeds", "_law_many", "_law_moods", "_law_found", "_law_number", "_law_spans", "_law_place", "_law_deed"] ["_law_source_here", "_law_deeds", "_law_many", "_law_moods"] (defScope s__law_rows) := ⟨rfl, rfl, rfl, by decide +kernel, rfl, by decide +kernel, by decide +kernel⟩
abbrev s__law_rule : Stmt := topS 72
abbrev N__law_rule : List Str := ["_law_source_here", "_law_many", "_law_moods", "_law_seats"]
theorem sc__law_rule : FnScope ["_law_source_here", "_law_many", "_law_moods", "_law_seats"] ["_law_source_here", "_law_many", "_law_moods"] (defScope s__law_rule) := ⟨rfl, rfl, rfl, by decide +kernel, rfl, by decide +kernel, by decide +kernel⟩
abbrev s__law_pair : Stmt := topS 73
abbrev N__law_pair : List Str := ["_law_source_here", "_law_most", "_law_one", "_law_other"]
theorem sc__law_pair : FnScope ["_law_source_here", "_law_most", "_law_one", "_law_other"] ["_law_source_here", "_law_most"] (defScope s__law_pair) := ⟨rfl, rfl, rfl, by decide +kernel, rfl, by decide +kernel, by decide +kernel⟩
abbrev s__law_setup : Stmt := topS 74
abbrev N__law_setup : List Str := ["_law_source_here", "_law_seats", "_law_rooms", "_law_comers_here", "_law_prices", "_law_place"]
theorem sc__law_setup : FnScope ["_law_source_here", "_law_seats", "_law_rooms", "_law_comers_here", "_law_prices", "_law_place"] ["_law_source_here"] (defScope s__law_setup) := ⟨rfl, rfl, rfl, by decide +kernel, rfl, by decide +kernel, by decide +kernel⟩
abbrev s__law_comers : Stmt := topS 75
abbrev N__law_comers : List Str := ["_law_shop", "_law_found", "_law_groups", "_law_size", "_law_singles"]
theorem sc__law_comers : FnScope ["_law_shop", "_law_found", "_law_groups", "_law_size", "_law_singles"] ["_law_shop"] (defScope s__law_comers) := ⟨rfl, rfl, rfl, by decide +kernel, rfl, by decide +kernel, by decide +kernel⟩
abbrev s__law_count : Stmt := topS 76
abbrev N__law_count : List Str := ["_law_shop", "_law_tag", "_law_slip", "_law_seated", "_law_size", "_law_deed", "_law_prices", "_law_cost", "_law_told"]
theorem sc__law_count : FnScope ["_law_shop", "_law_tag", "_law_slip", "_law_seated", "_law_size", "_law_deed", "_law_prices", "_law_cost", "_law_told"] ["_law_shop", "_law_tag", "_law_slip"] (defScope s__law_count) := ⟨rfl, rfl, rfl, by decide +kernel, rfl, by decide +kernel, by decide +kernel⟩
abbrev s__law_made : Stmt := topS 77
abbrev N__law_made : List Str := ["_law_source_here", "_law_shop", "_law_deeds", "_law_left", "_law_turn", "_law_size", "_law_asked", "_law_served", "_law_melted", "_law_most", "_law_away", "_law_opened", "_law_tub"]
theorem sc__law_made : FnScope ["_law_source_here", "_law_shop", "_law_deeds", "_law_left", "_law_turn", "_law_size", "_law_asked", "_law_served", "_law_melted", "_law_most", "_law_away", "_law_opened", "_law_tub"] ["_law_source_here", "_law_shop"] (defScope s__law_made) := ⟨rfl, rfl, rfl, by decide +kernel, rfl, by decide +kernel, by decide +kernel⟩
abbrev s__law_spoilt : Stmt := topS 78
abbrev N__law_spoilt : List Str := ["_law_source_here", "_law_shop", "_law_slip", "_law_deeds", "_law_empty", "_law_away", "_law_opened", "_law_served", "_law_unserved", "_law_melted", "_law_asked", "_law_most", "_law_kind", "_law_one", "_law_other", "_law_full", "_law_some"]
theorem sc__law_spoilt : FnScope ["_law_source_here", "_law_shop", "_law_slip", "_law_deeds", "_law_empty", "_law_away", "_law_opened", "_law_served", "_law_unserved", "_law_melted", "_law_asked", "_law_most", "_law_kind", "_law_one", "_law_other", "_law_full", "_law_some"] ["_law_source_here", "_law_shop", "_law_slip"] (defScope s__law_spoilt) := ⟨rfl, rfl, rfl, by decide +kernel, rfl, by decide +kernel, by decide +kernel⟩
abbrev s__law_refused : Stmt := topS 79
abbrev N__law_refused : List Str := ["_law_shop", "_law_tag", "_law_slip", "_law_found", "e"]
theorem sc__law_refused : FnScope ["_law_shop", "_law_tag", "_law_slip", "_law_found", "e"] ["_law_shop", "_law_tag", "_law_slip"] (defScope s__law_refused) := ⟨rfl, rfl, rfl, by decide +kernel, rfl, by decide +kernel, by decide +kernel⟩
abbrev s__law_bill_right : Stmt := topS 80
abbrev N__law_bill_right : List Str := ["_law_source_here", "_law_shop", "_law_slip", "_law_word", "_law_due", "_law_wrong", "_law_spoilt_here"]
theorem sc__law_bill_right : FnScope ["_law_source_here", "_law_shop", "_law_slip", "_law_word", "_law_due", "_law_wrong", "_law_spoilt_here"] ["_law_source_here", "_law_shop", "_law_slip"] (defScope s__law_bill_right) := ⟨rfl, rfl, rfl, by decide +kernel, rfl, by decide +kernel, by decide +kernel⟩
abbrev s_law : Stmt := topS 81
abbrev N_law : List Str := ["_law_script", "_law_words", "_law_index", "_law_source_here", "_law_shop", "_law_plan", "_law_every", "_law_run", "_law_beat", "_law_bills", "_law_slip", "_law_due", "_law_word"]
theorem sc_law : FnScope ["_law_script", "_law_words", "_law_index", "_law_source_here", "_law_shop", "_law_plan", "_law_every", "_law_run", "_law_beat", "_law_bills", "_law_slip", "_law_due", "_law_word"] ["_law_script"] (defScope s_law) := ⟨rfl, rfl, rfl, by decide +kernel, rfl, by decide +kernel, by decide +kernel⟩
structure Top (K : PySem.W.Frag) (mg : Str → Option Value) where
  f_fitting_row : Addr
  d_fitting_row : FuncData
  D_fitting_row : DefAt K mg "fitting_row" s_fitting_row ["rule", "mood", "looks", "deeds"] [] f_fitting_row d_fitting_row
  f_within : Addr
  d_within : FuncData
  D_within : DefAt K mg "within" s_within ["looks", "spans"] [] f_within d_within
  f_come_in : Addr
  d_come_in : FuncData
  D_come_in : DefAt K mg "come_in" s_come_in ["setup", "line", "singles", "comers"] [] f_come_in d_come_in
  f_bench_deeds : Addr
  d_bench_deeds : FuncData
  D_bench_deeds : DefAt K mg "bench_deeds" s_bench_deeds ["line", "singles", "left"] [] f_bench_deeds d_bench_deeds
  f_fill_bench : Addr
  d_fill_bench : FuncData
  D_fill_bench : DefAt K mg "fill_bench" s_fill_bench ["setup", "rule", "standing", "portions"] [] f_fill_bench d_fill_bench
  f_bench_beat : Addr
  d_bench_beat : FuncData
  D_bench_beat : DefAt K mg "bench_beat" s_bench_beat ["setup", "rule", "standing", "comers", "portions"] [] f_bench_beat d_bench_beat
  f_seated : Addr
  d_seated : FuncData
  D_seated : DefAt K mg "seated" s_seated ["deeds"] [] f_seated d_seated
  f_portions_open : Addr
  d_portions_open : FuncData
  D_portions_open : DefAt K mg "portions_open" s_portions_open ["tubs"] [] f_portions_open d_portions_open
  f_tub_deeds : Addr
  d_tub_deeds : FuncData
  D_tub_deeds : DefAt K mg "tub_deeds" s_tub_deeds ["tubs"] [] f_tub_deeds d_tub_deeds
  f_with_tub : Addr
  d_with_tub : FuncData
  D_with_tub : DefAt K mg "with_tub" s_with_tub ["setup", "tubs", "deed"] [] f_with_tub d_with_tub
  f_open_tubs : Addr
  d_open_tubs : FuncData
  D_open_tubs : DefAt K mg "open_tubs" s_open_tubs ["setup", "rule", "standing", "asked", "waiting"] [] f_open_tubs d_open_tubs
  f_eaten_of : Addr
  d_eaten_of : FuncData
  D_eaten_of : DefAt K mg "eaten_of" s_eaten_of ["tubs", "asked"] [] f_eaten_of d_eaten_of
  f_end_beat : Addr
  d_end_beat : FuncData
  D_end_beat : DefAt K mg "end_beat" s_end_beat ["setup", "tubs", "asked"] [] f_end_beat d_end_beat
  f_tub_beat : Addr
  d_tub_beat : FuncData
  D_tub_beat : DefAt K mg "tub_beat" s_tub_beat ["setup", "rule", "standing", "asked", "waiting"] [] f_tub_beat d_tub_beat
  f_tubs_cost : Addr
  d_tubs_cost : FuncData
  D_tubs_cost : DefAt K mg "tubs_cost" s_tubs_cost ["setup", "unserved", "melted"] [] f_tubs_cost d_tubs_cost
  f_is_whole : Addr
  d_is_whole : FuncData
  D_is_whole : DefAt K mg "is_whole" s_is_whole ["thing"] [] f_is_whole d_is_whole
  f_is_whole_in : Addr
  d_is_whole_in : FuncData
  D_is_whole_in : DefAt K mg "is_whole_in" s_is_whole_in ["thing", "low", "high"] [] f_is_whole_in d_is_whole_in
  f_is_pair : Addr
  d_is_pair : FuncData
  D_is_pair : DefAt K mg "is_pair" s_is_pair ["thing"] [] f_is_pair d_is_pair
  f_fault_in : Addr
  d_fault_in : FuncData
  D_fault_in : DefAt K mg "fault_in" s_fault_in ["thing", "fits", "most"] [] f_fault_in d_fault_in
  f_is_setup : Addr
  d_is_setup : FuncData
  D_is_setup : DefAt K mg "is_setup" s_is_setup ["thing"] [] f_is_setup d_is_setup
  f_is_choice : Addr
  d_is_choice : FuncData
  D_is_choice : DefAt K mg "is_choice" s_is_choice ["thing", "most"] [] f_is_choice d_is_choice
  f_check_setup : Addr
  d_check_setup : FuncData
  D_check_setup : DefAt K mg "check_setup" s_check_setup ["thing"] [] f_check_setup d_check_setup
  f_is_comers : Addr
  d_is_comers : FuncData
  D_is_comers : DefAt K mg "is_comers" s_is_comers ["setup", "thing"] [] f_is_comers d_is_comers
  f_check_row : Addr
  d_check_row : FuncData
  cw : Addr
  D_check_row : DefC K mg "check_row" s_check_row ["setup", "thing", "most"] [.int 200] f_check_row d_check_row cw
  f_is_half : Addr
  d_is_half : FuncData
  D_is_half : DefAt K mg "is_half" s_is_half ["thing", "deeds"] [] f_is_half d_is_half
  f_is_rule_row : Addr
  d_is_rule_row : FuncData
  D_is_rule_row : DefAt K mg "is_rule_row" s_is_rule_row ["thing", "deeds"] [] f_is_rule_row d_is_rule_row
  f_is_span : Addr
  d_is_span : FuncData
  D_is_span : DefAt K mg "is_span" s_is_span ["thing"] [] f_is_span d_is_span
  f_is_seats : Addr
  d_is_seats : FuncData
  D_is_seats : DefAt K mg "is_seats" s_is_seats ["thing"] [] f_is_seats d_is_seats
  f_is_tubs : Addr
  d_is_tubs : FuncData
  D_is_tubs : DefAt K mg "is_tubs" s_is_tubs ["thing"] [] f_is_tubs d_is_tubs
  f_is_rule : Addr
  d_is_rule : FuncData
  D_is_rule : DefAt K mg "is_rule" s_is_rule ["thing"] [] f_is_rule d_is_rule
  f_check_rule : Addr
  d_check_rule : FuncData
  D_check_rule : DefAt K mg "check_rule" s_check_rule ["thing"] [] f_check_rule d_check_rule
  f_check_what : Addr
  d_check_what : FuncData
  D_check_what : DefAt K mg "check_what" s_check_what ["thing"] [] f_check_what d_check_what
  f_house_beat : Addr
  d_house_beat : FuncData
  D_house_beat : DefAt K mg "house_beat" s_house_beat ["setup", "rule", "standing", "comers"] [] f_house_beat d_house_beat
  f_run_house : Addr
  d_run_house : FuncData
  p_EMPTY_HOUSE : Addr
  c_EMPTY_HOUSE : mg "EMPTY_HOUSE" = some (.ref p_EMPTY_HOUSE)
  v_EMPTY_HOUSE : ∀ H, Dq K H (.ref p_EMPTY_HOUSE) (.tuple [.tuple [], .int 0, .tuple [], .tuple [.int 0, .int 0]])
  cwr : Addr
  D_run_house : DefC K mg "run_house" s_run_house ["setup", "rule", "row", "standing"] [.ref p_EMPTY_HOUSE] f_run_house d_run_house cwr
  f_check_house_row : Addr
  d_check_house_row : FuncData
  D_check_house_row : DefAt K mg "check_house_row" s_check_house_row ["setup", "rule", "row"] [] f_check_house_row d_check_house_row
  f_bills_of : Addr
  d_bills_of : FuncData
  D_bills_of : DefAt K mg "bills_of" s_bills_of ["setup", "rule", "row"] [] f_bills_of d_bills_of
  f_is_deed : Addr
  d_is_deed : FuncData
  D_is_deed : DefAt K mg "is_deed" s_is_deed ["setup", "thing"] [] f_is_deed d_is_deed
  f_is_bill : Addr
  d_is_bill : FuncData
  D_is_bill : DefAt K mg "is_bill" s_is_bill ["setup", "thing"] [] f_is_bill d_is_bill
  f_count_of : Addr
  d_count_of : FuncData
  D_count_of : DefAt K mg "count_of" s_count_of ["setup", "what", "bill"] [] f_count_of d_count_of
  f_bill_count : Addr
  d_bill_count : FuncData
  D_bill_count : DefAt K mg "bill_count" s_bill_count ["setup", "what", "bill"] [] f_bill_count d_bill_count
  f_totals_of : Addr
  d_totals_of : FuncData
  D_totals_of : DefAt K mg "totals_of" s_totals_of ["setup", "rule", "row"] [] f_totals_of d_totals_of
  f_bill_totals : Addr
  d_bill_totals : FuncData
  D_bill_totals : DefAt K mg "bill_totals" s_bill_totals ["setup", "bills"] [] f_bill_totals d_bill_totals
  f__law_source : Addr
  d__law_source : FuncData
  D__law_source : DefAt K mg "_law_source" s__law_source ["_law_script", "_law_index"] [] f__law_source d__law_source
  f__law_draw : Addr
  d__law_draw : FuncData
  D__law_draw : DefAt K mg "_law_draw" s__law_draw ["_law_source_here", "_law_bound"] [] f__law_draw d__law_draw
  f__law_span : Addr
  d__law_span : FuncData
  D__law_span : DefAt K mg "_law_span" s__law_span ["_law_source_here"] [] f__law_span d__law_span
  f__law_rows : Addr
  d__law_rows : FuncData
  D__law_rows : DefAt K mg "_law_rows" s__law_rows ["_law_source_here", "_law_deeds", "_law_many", "_law_moods"] [] f__law_rows d__law_rows
  f__law_rule : Addr
  d__law_rule : FuncData
  D__law_rule : DefAt K mg "_law_rule" s__law_rule ["_law_source_here", "_law_many", "_law_moods"] [] f__law_rule d__law_rule
  f__law_pair : Addr
  d__law_pair : FuncData
  D__law_pair : DefAt K mg "_law_pair" s__law_pair ["_law_source_here", "_law_most"] [] f__law_pair d__law_pair
  f__law_setup : Addr
  d__law_setup : FuncData
  D__law_setup : DefAt K mg "_law_setup" s__law_setup ["_law_source_here"] [] f__law_setup d__law_setup
  f__law_comers : Addr
  d__law_comers : FuncData
  D__law_comers : DefAt K mg "_law_comers" s__law_comers ["_law_shop"] [] f__law_comers d__law_comers
  f__law_count : Addr
  d__law_count : FuncData
  D__law_count : DefAt K mg "_law_count" s__law_count ["_law_shop", "_law_tag", "_law_slip"] [] f__law_count d__law_count
  f__law_made : Addr
  d__law_made : FuncData
  D__law_made : DefAt K mg "_law_made" s__law_made ["_law_source_here", "_law_shop"] [] f__law_made d__law_made
  f__law_spoilt : Addr
  d__law_spoilt : FuncData
  D__law_spoilt : DefAt K mg "_law_spoilt" s__law_spoilt ["_law_source_here", "_law_shop", "_law_slip"] [] f__law_spoilt d__law_spoilt
  f__law_refused : Addr
  d__law_refused : FuncData
  D__law_refused : DefAt K mg "_law_refused" s__law_refused ["_law_shop", "_law_tag", "_law_slip"] [] f__law_refused d__law_refused
  f__law_bill_right : Addr
  d__law_bill_right : FuncData
  D__law_bill_right : DefAt K mg "_law_bill_right" s__law_bill_right ["_law_source_here", "_law_shop", "_law_slip"] [] f__law_bill_right d__law_bill_right
  b_len : mg "len" = none
  b_isinstance : mg "isinstance" = none
  b_all : mg "all" = none
  b_max : mg "max" = none
  b_min : mg "min" = none
  b_sum : mg "sum" = none
  b_repr : mg "repr" = none
  b_int : mg "int" = none
  b_bool : mg "bool" = none
  b_tuple : mg "tuple" = none
  b_list : mg "list" = none
  b_range : mg "range" = none
  b_enumerate : mg "enumerate" = none
  b_zip : mg "zip" = none
  t_MOST_TUBS : Tok
  c_MOST_TUBS : mg "MOST_TUBS" = some (.int 2 t_MOST_TUBS)
  t_NO_AGE : Tok
  c_NO_AGE : mg "NO_AGE" = some (.int 9 t_NO_AGE)
  t_MOST_SEATS : Tok
  c_MOST_SEATS : mg "MOST_SEATS" = some (.int 4 t_MOST_SEATS)
  t_MOST_PORTIONS : Tok
  c_MOST_PORTIONS : mg "MOST_PORTIONS" = some (.int 4 t_MOST_PORTIONS)
  t_MOST_LIFE : Tok
  c_MOST_LIFE : mg "MOST_LIFE" = some (.int 3 t_MOST_LIFE)
  t_MOST_PRICE : Tok
  c_MOST_PRICE : mg "MOST_PRICE" = some (.int 5 t_MOST_PRICE)
  t_MOST_RULE_ROWS : Tok
  c_MOST_RULE_ROWS : mg "MOST_RULE_ROWS" = some (.int 6 t_MOST_RULE_ROWS)
  t_LONGEST_ROW : Tok
  c_LONGEST_ROW : mg "LONGEST_ROW" = some (.int 200 t_LONGEST_ROW)
  p_SEAT_DEEDS : Addr
  c_SEAT_DEEDS : mg "SEAT_DEEDS" = some (.ref p_SEAT_DEEDS)
  v_SEAT_DEEDS : ∀ H, Dq K H (.ref p_SEAT_DEEDS) (.tuple [.str "group", .str "single", .str "go"])
  p_TUB_DEEDS : Addr
  c_TUB_DEEDS : mg "TUB_DEEDS" = some (.ref p_TUB_DEEDS)
  v_TUB_DEEDS : ∀ H, Dq K H (.ref p_TUB_DEEDS) (.tuple [.str "small", .str "great", .str "rest"])
  p_HOUSE_WORDS : Addr
  c_HOUSE_WORDS : mg "HOUSE_WORDS" = some (.ref p_HOUSE_WORDS)
  v_HOUSE_WORDS : ∀ H, Dq K H (.ref p_HOUSE_WORDS) (.tuple [.str "empty", .str "away", .str "unserved", .str "melted", .str "served", .str "seated", .str "cost"])
  KN_count_of__bill_what_setup : KBn K d_count_of ["setup", "what", "bill"] 0 ["bill", "what", "setup"] (fun _ ws => kwU [2, 1, 0] ws) (fun _ zs => kwV [2, 1, 0] zs)
  KN_totals_of__row_rule_setup : KBn K d_totals_of ["setup", "rule", "row"] 0 ["row", "rule", "setup"] (fun _ ws => kwU [2, 1, 0] ws) (fun _ zs => kwV [2, 1, 0] zs)
  x_BadWhat : Addr
  X_BadWhat : ExcD K mg "BadWhat" x_BadWhat
  x_BadBill : Addr
  X_BadBill : ExcD K mg "BadBill" x_BadBill
  x_ParlourError : Addr
  m_ParlourError : mg "ParlourError" = some (.ref x_ParlourError)
  b_ValueError : mg "ValueError" = none
  E_BadWhat : ExcC K x_BadWhat
  E_BadBill : ExcC K x_BadBill
  h_BadWhat : PySem.W.exmOne K (.ref x_BadWhat) (.ref x_ParlourError) = some true
  h_BadBill : PySem.W.exmOne K (.ref x_BadBill) (.ref x_ParlourError) = some true
  i_WB : PySem.W.kitOne K (.ref x_BadWhat) (.ref x_BadBill) = some false
  i_WW : PySem.W.kitOne K (.ref x_BadWhat) (.ref x_BadWhat) = some true
  i_WV : PySem.W.kitOne K (.ref x_BadWhat) (.type "ValueError") = some true
  i_BB : PySem.W.kitOne K (.ref x_BadBill) (.ref x_BadBill) = some true
  i_BW : PySem.W.kitOne K (.ref x_BadBill) (.ref x_BadWhat) = some false
  i_BV : PySem.W.kitOne K (.ref x_BadBill) (.type "ValueError") = some true
end K38

set_option Elab.async false
set_option linter.all false
set_option maxRecDepth 100000
set_option maxHeartbeats 1000000
namespace K38
open PySem PySem.Spec PyProof.Rows L2 Dat
local macro_rules | `(tactic| trivial) => `(tactic| (first
  | (with_reducible refine s_seq ?_)
  | (with_reducible refine s_asg ?_)
  | (with_reducible refine s_ret ?_)
  | (with_reducible refine s_drop ?_)
  | (with_reducible refine s_next ?_)
  | (with_reducible refine s_retN ?_)
  | (with_reducible refine s_brk ?_)
  | (with_reducible refine s_cont ?_)
  | (with_reducible refine s_if ?_)
  | (with_reducible refine e_int ?_)
  | (with_reducible refine e_str ?_)
  | (with_reducible refine e_bl ?_)
  | (with_reducible refine e_non ?_)
  | (with_reducible refine e_ty ?_)
  | (with_reducible refine e_tupD ?_)
  | (with_reducible refine e_lstD ?_)
  | (with_reducible refine e_op ?_)
  | (with_reducible refine e_un ?_)
  | (with_reducible refine e_then ?_)
  | (with_reducible refine e_cb ?_)
  | (with_reducible refine e_call ?_)
  | (with_reducible refine e_if ?_)
  | (with_reducible refine e_chain ?_)
  | (with_reducible refine e_andV ?_)
  | (with_reducible refine e_orV ?_)
  | (with_reducible refine e_notV ?_)
  | (with_reducible refine a_cons ?_)
  | (with_reducible refine a_nil ?_)
  | (with_reducible refine t_test ?_)
  | (with_reducible refine t_B ?_)
  | (with_reducible refine t_not ?_)
  | (with_reducible refine t_and ?_)
  | (with_reducible refine t_or ?_)
  | (with_reducible refine r_I0i ?_)
  | (with_reducible refine r_I0b ?_)
  | (with_reducible refine r_neg ?_)
  | (with_reducible refine r_isN ?_)
  | (with_reducible refine r_notN ?_)
  | (with_reducible refine c_lenT ?_)
  | (with_reducible refine c_lenL ?_)
  | (with_reducible refine c_intI ?_)
  | (with_reducible refine c_intB ?_)
  | (with_reducible refine c_max2 ?_)
  | (with_reducible refine c_min2 ?_)
  | (with_reducible refine c_abs ?_)
  | (with_reducible refine r_tupL ?_)
  | (with_reducible refine r_tupT ?_)
  | (with_reducible refine c_allM ?_)
  | ((with_reducible apply e_var); (exact rfl))
  | ((with_reducible refine r_eq ?_ ?_); (exact rfl))
  | ((with_reducible refine r_ne ?_ ?_); (exact rfl))
  | (with_reducible refine c_isi kit_int ?_)
  | (with_reducible refine c_isi kit_bool ?_)
  | (with_reducible refine c_isi kit_tuple ?_)
  | (with_reducible refine c_isi kit_list ?_)
  | (with_reducible refine c_isi kit_str ?_)
  | ((with_reducible apply r_ixT); (exact rfl))
  | ((with_reducible apply dats_pack); (iterate 40 (first | exact Dats.nil | apply Dats.cons | skip)); (exact rfl))
  | (with_reducible refine s_asgG ?_) | (with_reducible refine g_name ?_) | ((with_reducible refine g_tup ?_ ?_); (exact rfl)) | (refine gs_nil ?_) | (refine gs_cons ?_) | (with_reducible refine ⟨rfl, ?_⟩)
  | (refine ⟨_, rfl, ?_⟩) | (refine ⟨_, _, rfl, ?_⟩) | (refine ⟨_, _, _, rfl, ?_⟩) | (with_reducible refine ⟨fun _ => ?_, fun _ => ?_⟩) | fail))
/-! ### what the program judges -/
def isWh : PyData → Bool
  | .int _ => true
  | _ => false
def inD (lo hi : Int) : PyData → Bool
  | .int i => decide (lo ≤ i) && decide (i ≤ hi)
  | _ => false
def pairD : PyData → Bool
  | .tuple ds => decide (ds.length = 2)
  | _ => false
def lt2 : List PyData → Bool
  | [.int a, .int b] => decide (a < b)
  | _ => false
def choiceD (m : Int) : PyData → Bool
  | .tuple ds => (decide (1 ≤ ds.length) && decide (ds.length ≤ 2)) && (ds.all (inD 1 m) && (decide (ds.length = 1) || lt2 ds))
  | _ => false
section
variable {P : Program} {w : World} {K : PySem.W.Frag} [Tb K] {mg : Str → Option Value} {base : Heap}
theorem ok_is_whole (T : Top K mg) : FnOk P w K mg base CX0 1 T.f_is_whole T.d_is_whole ["thing"] (spA K (spB isWh)) := by
  refine fnA_ok T.D_is_whole.F sc_is_whole (fun as Ω P ⟨d, e, _⟩ => by subst e; rfl) (fun cdv A outer s H E hr => ?_)
  refine ⟨_, (pss_one (ps_ret (pe_and (pe_callB (Dat.isiQ (K := K) rfl) rfl T.b_isinstance bt_isinstance (pa_cons (pv 0) (pa_cons (pe_bltn (v := .ty "int") rfl T.b_int bt_int rfl) pa_nil))) (pe_one (pe_not (pe_callB (Dat.isiQ (K := K) rfl) rfl T.b_isinstance bt_isinstance (pa_cons (pv 0) (pa_cons (pe_bltn (v := .ty "bool") rfl T.b_bool bt_bool rfl) pa_nil)))))))), ?_⟩
  rintro as Ω P ⟨d, rfl, h⟩
  repeat' trivial
  all_goals (cases d <;> simp_all [isIntD, isBoolD, isWh])
abbrev spIn : ASp := fun as Ω P => ∃ d lo hi, as = [.dat d, .dat (.int lo), .dat (.int hi)] ∧ P (.dat (.bool (inD lo hi d))) Ω
theorem ok_is_whole_in (T : Top K mg) : FnOk P w K mg base CX0 2 T.f_is_whole_in T.d_is_whole_in ["thing", "low", "high"] (spA K spIn) := by
  have G_is_whole : FnOk P w K mg base CX0 1 T.f_is_whole T.d_is_whole ["thing"] (spA K (spB isWh)) := ok_is_whole T
  refine fnA_ok T.D_is_whole_in.F sc_is_whole_in (fun as Ω P ⟨d, lo, hi, e, _⟩ => by subst e; rfl) (fun cdv A outer s H E hr => ?_)
  refine ⟨_, (pss_one (ps_ret (pe_and (pe_call G_is_whole (hr.mono (by omega)) rfl T.D_is_whole.g T.D_is_whole.F.kp T.D_is_whole.b .nil pass0 (pa_cons (pv 0) pa_nil)) (pe_one (pe_chain op_le op_le (pv 1) (pv 0) (pv 2)))))), ?_⟩
  rintro as Ω P ⟨d, lo, hi, rfl, h⟩
  refine s_ret (e_andV (e_call (a_cons (e_var rfl (a_nil ⟨d, rfl, _, rfl, fun hw => ?_, fun hw => ?_⟩)))))
  · cases d <;> try (cases hw; done)
    repeat' trivial
    all_goals simp_all [inD]
  · cases d <;> simp_all [isWh, inD]
theorem ok_is_pair (T : Top K mg) : FnOk P w K mg base CX0 1 T.f_is_pair T.d_is_pair ["thing"] (spA K (spB pairD)) := by
  refine fnA_ok T.D_is_pair.F sc_is_pair (fun as Ω P ⟨d, e, _⟩ => by subst e; rfl) (fun cdv A outer s H E hr => ?_)
  refine ⟨_, (pss_one (ps_ret (pe_and (pe_callB (Dat.isiQ (K := K) rfl) rfl T.b_isinstance bt_isinstance (pa_cons (pv 0) (pa_cons (pe_bltn (v := .ty "tuple") rfl T.b_tuple bt_tuple rfl) pa_nil))) (pe_one (pe_cmpR op_eq (pe_callB (Dat.lenQ (K := K) rfl) rfl T.b_len bt_len (pa_cons (pv 0) pa_nil)) pe_int (nomark _)))))), ?_⟩
  rintro as Ω P ⟨d, rfl, h⟩
  refine s_ret (e_andV (e_cb (a_cons (e_var rfl (a_cons (e_ty (a_nil (c_isi kit_tuple ⟨_, rfl, fun hw => ?_, fun hw => ?_⟩))))))))
  · cases d <;> try (cases hw; done)
    repeat' trivial
    refine cast (congrArg (fun b => P (Av.dat (.bool b)) Ω) ?_) h
    simp only [pairD, eqD]
    rw [decide_eq_decide]
    omega
  · cases d <;> simp_all [isTupD, pairD]
abbrev spCh : ASp := fun as Ω P => ∃ d m, as = [.dat d, .dat (.int m)] ∧ P (.dat (.bool (choiceD m d))) Ω
theorem all_in {lo hi : Int} : ∀ {ds : List PyData}, ds.all (inD lo hi) = true → ∃ ns : List Int, ds = ns.map PyData.int
  | [], _ => ⟨[], rfl⟩
  | d :: r, h => by
    rw [List.all_cons, Bool.and_eq_true] at h
    obtain ⟨ns, rfl⟩ := all_in h.2
    cases d <;> first | exact ⟨_ :: ns, rfl⟩ | (cases h.1)
theorem tup_or (d : PyData) : (∃ ds, d = .tuple ds) ∨ isTupD d = false := by
  cases d <;> first | exact .inl ⟨_, rfl⟩ | exact .inr rfl
theorem ok_is_choice (T : Top K mg) : FnOk P w K mg base CX0 3 T.f_is_choice T.d_is_choice ["thing", "most"] (spA K spCh) := by
  have G_is_whole_in : FnOk P w K mg base CX0 2 T.f_is_whole_in T.d_is_whole_in ["thing", "low", "high"] (spA K spIn) := ok_is_whole_in T
  refine fnA_ok T.D_is_choice.F sc_is_choice (fun as Ω P ⟨d, m, e, _⟩ => by subst e; rfl) (fun cdv A outer s H E hr => ?_)
  refine ⟨_, (pss_cons (ps_if (pt_not (PW.pt (pw_and (pt_val (pe_callB (Dat.isiQ (K := K) rfl) rfl T.b_isinstance bt_isinstance (pa_cons (pv 0) (pa_cons (pe_bltn (v := .ty "tuple") rfl T.b_tuple bt_tuple rfl) pa_nil)))) (pw_and1 (pt_chain op_le op_le pe_int (pe_callB (Dat.lenQ (K := K) rfl) rfl T.b_len bt_len (pa_cons (pv 0) pa_nil)) pe_int)))))
      (pss_one (ps_ret pe_bl))
      pss_nil)
    (pss_one (ps_ret (pe_and (pe_callB (Dat.allQ (K := K) rfl rfl) rfl T.b_all bt_all (pa_cons (pe_lc (own := [("part", 2)]) (g := (gName 2)) (tt := tYes) rfl sc_is_choice.nd (Dat.piT (K := K) rfl (pv 0)) (blkOk_by (N := N_is_choice) (sc := defScope s_is_choice) (by decide +kernel)) (fun _ _ _ _ _ => (pg_name (i := 2) sc_is_choice.nd rfl (Or.inl rfl))) (fun _ _ _ _ _ => pts_nil) (fun _ _ _ _ _ => (pe_call G_is_whole_in (hr.mono (by omega)) rfl T.D_is_whole_in.g T.D_is_whole_in.F.kp T.D_is_whole_in.b .nil pass0 (pa_cons (pv 2) (pa_cons pe_int (pa_cons (pv 1) pa_nil)))))) pa_nil)) (pe_one (pe_or (pe_cmpR op_eq (pe_callB (Dat.lenQ (K := K) rfl) rfl T.b_len bt_len (pa_cons (pv 0) pa_nil)) pe_int (nomark _)) (pe_one (pe_cmpR op_lt (pe_ix (Dat.ixT (K := K) rfl) (pv 0) pe_int (fun _ _ => rfl)) (pe_ix (Dat.ixT (K := K) rfl) (pv 0) pe_int (fun _ _ => rfl)) (nomark _))))))))), ?_⟩
  rintro as Ω P ⟨d, m, rfl, h⟩
  rcases tup_or d with ⟨ds, rfl⟩ | hn
  · have bad : ¬ (1 ≤ ds.length ∧ ds.length ≤ 2) → P (.dat (.bool false)) Ω := fun hl => by
      have : choiceD m (.tuple ds) = false := by
        simp only [choiceD]
        by_cases h1 : 1 ≤ ds.length
        · have h2 : ¬ ds.length ≤ 2 := fun z => hl ⟨h1, z⟩
          simp [h2]
        · simp [h1]
      rw [this] at h
      exact h
    repeat' trivial
    · exact bad (by simp_all; omega)
    · have hl : 1 ≤ ds.length ∧ ds.length ≤ 2 := by simp_all; omega
      refine e_lcM ds .dat (fun d => .bool (inD 1 m d)) (gn_name (by decide)) (by omega) ?_
      refine i_tup (e_var rfl ⟨_, rfl, rfl, fun x Ω' _ _ => g_name ⟨rfl, ?_⟩, ?_⟩)
      · repeat' trivial
      · refine a_nil (c_allM ⟨_, rfl, fun ha => ?_, fun ha => ?_⟩)
        · obtain ⟨ns, rfl⟩ := all_in ha
          match ns, hl with
          | [a], _ =>
            repeat' trivial
            all_goals simp_all [choiceD, lt2, eqD, inD]
          | [a, b], _ =>
            repeat' trivial
            all_goals simp_all [choiceD, lt2, eqD, inD]
          | _ :: _ :: _ :: _, hl => exact absurd hl.2 (by simp)
        · have : choiceD m (.tuple ds) = false := by simp only [choiceD, ha, Bool.false_and, Bool.and_false]
          rw [this] at h
          exact h
    · exact bad (by simp_all; omega)
  · repeat' trivial
    all_goals (cases d <;> simp_all [isTupD, choiceD])
/-! ### setups -/
def intOf : PyData → Int
  | .int i => i
  | _ => 0
def fstD : PyData → PyData
  | .tuple (a :: _) => a
  | _ => .none
def sndD : PyData → PyData
  | .tuple (_ :: b :: _) => b
  | _ => .none
def pricesD : PyData → Bool
  | .tuple ds => decide (ds.length = 4) && ds.all (inD 0 5)
  | _ => false
def setupD : PyData → Bool
  | .tuple [seats, sizes, rooms, comers, kinds, life, prices] =>
    inD 1 4 seats && (choiceD (intOf seats) sizes && (pairD rooms && (inD 1 2 (fstD rooms) && (inD 0 2 (sndD rooms) && (pairD comers && (inD 0 1 (fstD comers) && (inD 0 2 (sndD comers) && (choiceD 4 kinds && (inD 1 3 life && pricesD prices)))))))))
  | _ => false
theorem pair_or {d : PyData} (h : pairD d = true) : ∃ a b, d = .tuple [a, b] := by
  cases d <;> try (cases h; done)
  rename_i ds
  have h2 : ds.length = 2 := of_decide_eq_true h
  match ds, h2 with
  | [a, b], _ => exact ⟨a, b, rfl⟩
theorem inD_or {lo hi : Int} {d : PyData} (h : inD lo hi d = true) : ∃ i, d = .int i ∧ lo ≤ i ∧ i ≤ hi := by
  cases d <;> try (cases h; done)
  rename_i i
  simp only [inD, Bool.and_eq_true, decide_eq_true_eq] at h
  exact ⟨i, rfl, h.1, h.2⟩
theorem pair_or' (d : PyData) : (∃ a b, d = .tuple [a, b]) ∨ pairD d = false := by
  cases h : pairD d
  · exact .inr rfl
  · exact .inl (pair_or h)
theorem in_or (lo hi : Int) (d : PyData) : (∃ i, d = .int i ∧ lo ≤ i ∧ i ≤ hi) ∨ inD lo hi d = false := by
  cases h : inD lo hi d
  · exact .inr rfl
  · exact .inl (inD_or h)
theorem ok_is_setup (T : Top K mg) : FnOk P w K mg base CX0 4 T.f_is_setup T.d_is_setup ["thing"] (spA K (spB setupD)) := by
  have G_is_whole_in : FnOk P w K mg base CX0 2 T.f_is_whole_in T.d_is_whole_in ["thing", "low", "high"] (spA K spIn) := ok_is_whole_in T
  have G_is_choice : FnOk P w K mg base CX0 3 T.f_is_choice T.d_is_choice ["thing", "most"] (spA K spCh) := ok_is_choice T
  have G_is_pair : FnOk P w K mg base CX0 1 T.f_is_pair T.d_is_pair ["thing"] (spA K (spB pairD)) := ok_is_pair T
  refine fnA_ok T.D_is_setup.F sc_is_setup (fun as Ω P ⟨d, e, _⟩ => by subst e; rfl) (fun cdv A outer s H E hr => ?_)
  refine ⟨_, (pss_cons (ps_if (pt_not (PW.pt (pw_and (pt_val (pe_callB (Dat.isiQ (K := K) rfl) rfl T.b_isinstance bt_isinstance (pa_cons (pv 0) (pa_cons (pe_bltn (v := .ty "tuple") rfl T.b_tuple bt_tuple rfl) pa_nil)))) (pw_and1 (pt_cmpR op_eq (pe_callB (Dat.lenQ (K := K) rfl) rfl T.b_len bt_len (pa_cons (pv 0) pa_nil)) pe_int (nomark _))))))
      (pss_one (ps_ret pe_bl))
      pss_nil)
    (pss_cons (ps_asg (pv 0) (Dat.pgT (K := K) (n := 7) rfl rfl (pgs_cons (pg_name (i := 1) sc_is_setup.nd rfl (.inl rfl)) (pgs_cons (pg_name (i := 2) sc_is_setup.nd rfl (.inl rfl)) (pgs_cons (pg_name (i := 3) sc_is_setup.nd rfl (.inl rfl)) (pgs_cons (pg_name (i := 4) sc_is_setup.nd rfl (.inl rfl)) (pgs_cons (pg_name (i := 5) sc_is_setup.nd rfl (.inl rfl)) (pgs_cons (pg_name (i := 6) sc_is_setup.nd rfl (.inl rfl)) (pgs_cons (pg_name (i := 7) sc_is_setup.nd rfl (.inl rfl)) pgs_nil)))))))))
    (pss_one (ps_ret (pe_and (pe_call G_is_whole_in (hr.mono (by omega)) rfl T.D_is_whole_in.g T.D_is_whole_in.F.kp T.D_is_whole_in.b .nil pass0 (pa_cons (pv 1) (pa_cons pe_int (pa_cons (pe_glob (v := .int 4) rfl T.c_MOST_SEATS ⟨_, rfl⟩) pa_nil)))) (pe_and (pe_call G_is_choice (hr.mono (by omega)) rfl T.D_is_choice.g T.D_is_choice.F.kp T.D_is_choice.b .nil pass0 (pa_cons (pv 2) (pa_cons (pv 1) pa_nil))) (pe_and (pe_call G_is_pair (hr.mono (by omega)) rfl T.D_is_pair.g T.D_is_pair.F.kp T.D_is_pair.b .nil pass0 (pa_cons (pv 3) pa_nil)) (pe_and (pe_call G_is_whole_in (hr.mono (by omega)) rfl T.D_is_whole_in.g T.D_is_whole_in.F.kp T.D_is_whole_in.b .nil pass0 (pa_cons (pe_ix (Dat.ixT (K := K) rfl) (pv 3) pe_int (fun _ _ => rfl)) (pa_cons pe_int (pa_cons pe_int pa_nil)))) (pe_and (pe_call G_is_whole_in (hr.mono (by omega)) rfl T.D_is_whole_in.g T.D_is_whole_in.F.kp T.D_is_whole_in.b .nil pass0 (pa_cons (pe_ix (Dat.ixT (K := K) rfl) (pv 3) pe_int (fun _ _ => rfl)) (pa_cons pe_int (pa_cons pe_int pa_nil)))) (pe_and (pe_call G_is_pair (hr.mono (by omega)) rfl T.D_is_pair.g T.D_is_pair.F.kp T.D_is_pair.b .nil pass0 (pa_cons (pv 4) pa_nil)) (pe_and (pe_call G_is_whole_in (hr.mono (by omega)) rfl T.D_is_whole_in.g T.D_is_whole_in.F.kp T.D_is_whole_in.b .nil pass0 (pa_cons (pe_ix (Dat.ixT (K := K) rfl) (pv 4) pe_int (fun _ _ => rfl)) (pa_cons pe_int (pa_cons pe_int pa_nil)))) (pe_and (pe_call G_is_whole_in (hr.mono (by omega)) rfl T.D_is_whole_in.g T.D_is_whole_in.F.kp T.D_is_whole_in.b .nil pass0 (pa_cons (pe_ix (Dat.ixT (K := K) rfl) (pv 4) pe_int (fun _ _ => rfl)) (pa_cons pe_int (pa_cons pe_int pa_nil)))) (pe_and (pe_call G_is_choice (hr.mono (by omega)) rfl T.D_is_choice.g T.D_is_choice.F.kp T.D_is_choice.b .nil pass0 (pa_cons (pv 5) (pa_cons (pe_glob (v := .int 4) rfl T.c_MOST_PORTIONS ⟨_, rfl⟩) pa_nil))) (pe_and (pe_call G_is_whole_in (hr.mono (by omega)) rfl T.D_is_whole_in.g T.D_is_whole_in.F.kp T.D_is_whole_in.b .nil pass0 (pa_cons (pv 6) (pa_cons pe_int (pa_cons (pe_glob (v := .int 3) rfl T.c_MOST_LIFE ⟨_, rfl⟩) pa_nil)))) (pe_and (pe_callB (Dat.isiQ (K := K) rfl) rfl T.b_isinstance bt_isinstance (pa_cons (pv 7) (pa_cons (pe_bltn (v := .ty "tuple") rfl T.b_tuple bt_tuple rfl) pa_nil))) (pe_and (pe_cmpR op_eq (pe_callB (Dat.lenQ (K := K) rfl) rfl T.b_len bt_len (pa_cons (pv 7) pa_nil)) pe_int (nomark _)) (pe_one (pe_callB (Dat.allQ (K := K) rfl rfl) rfl T.b_all bt_all (pa_cons (pe_lc (own := [("price", 8)]) (g := (gName 8)) (tt := tYes) rfl sc_is_setup.nd (Dat.piT (K := K) rfl (pv 7)) (blkOk_by (N := N_is_setup) (sc := defScope s_is_setup) (by decide +kernel)) (fun _ _ _ _ _ => (pg_name (i := 8) sc_is_setup.nd rfl (Or.inl rfl))) (fun _ _ _ _ _ => pts_nil) (fun _ _ _ _ _ => (pe_call G_is_whole_in (hr.mono (by omega)) rfl T.D_is_whole_in.g T.D_is_whole_in.F.kp T.D_is_whole_in.b .nil pass0 (pa_cons (pv 8) (pa_cons pe_int (pa_cons (pe_glob (v := .int 5) rfl T.c_MOST_PRICE ⟨_, rfl⟩) pa_nil)))))) pa_nil))))))))))))))))))), ?_⟩
  rintro as Ω P ⟨d, rfl, h⟩
  rcases tup_or d with ⟨ds, rfl⟩ | hn
  · by_cases hl : ds.length = 7
    · match ds, hl with
      | [d1, d2, d3, d4, d5, d6, d7], _ =>
        refine s_seq (s_ifB (b := false) ?_ (fun z => by cases z) fun _ => s_next (s_seq ?_))
        · repeat' trivial
          all_goals first | (refine ⟨?_, rfl⟩; rfl) | (simp_all [isTupD]; done)
        refine s_asgG (e_var rfl (g_tup rfl ?_))
        repeat (refine gs_cons (g_name ⟨rfl, ?_⟩))
        refine gs_nil (s_retB (b := setupD (.tuple [d1, d2, d3, d4, d5, d6, d7])) ?_ h)
        refine e_andB ?_ fun h1 => ?_
        · repeat' trivial
        obtain ⟨i, rfl, hi⟩ := inD_or h1
        refine e_andB ?_ fun h2 => e_andB ?_ fun h3 => ?_
        · repeat' trivial
        · repeat' trivial
        obtain ⟨a, b, rfl⟩ := pair_or h3
        refine e_andB ?_ fun h4 => e_andB ?_ fun h5 => e_andB ?_ fun h6 => ?_
        · repeat' trivial
        · repeat' trivial
        · repeat' trivial
        obtain ⟨a', b', rfl⟩ := pair_or h6
        refine e_andB ?_ fun h7 => e_andB ?_ fun h8 => e_andB ?_ fun h9 => e_andB ?_ fun h10 => ?_
        · repeat' trivial
        · repeat' trivial
        · repeat' trivial
        · repeat' trivial
        rcases tup_or d7 with ⟨ds7, rfl⟩ | h7
        · refine e_andB (b1 := true) ?_ fun _ => e_andB (b1 := decide (ds7.length = 4)) ?_ fun hl => ?_
          · repeat' trivial
          · repeat' trivial
            refine ⟨?_, rfl⟩
            simp only [eqD]
            congr 2
            rw [decide_eq_decide]
            omega
          · have hl4 : ds7.length = 4 := of_decide_eq_true hl
            refine e_cb (a_cons (e_lcM ds7 .dat (fun d => .bool (inD 0 5 d)) (gn_name (by decide)) (by omega) ?_))
            refine i_tup (e_var rfl ⟨_, rfl, rfl, fun x Ω' _ _ => g_name ⟨rfl, ?_⟩, ?_⟩)
            · repeat' trivial
            · exact a_nil (c_allM ⟨rfl, rfl⟩)
        · have e7 : pricesD d7 = false := by
            cases d7 <;> first | rfl | cases h7
          show EW K _ _ Ω (IsB (pricesD d7) Ω)
          rw [e7]
          repeat' trivial
          exact absurd h7 (by simp_all)
    · have : setupD (.tuple ds) = false := by
        unfold setupD
        split
        · next e => rw [PyData.tuple.inj e] at hl; exact absurd rfl hl
        · rfl
      rw [this] at h
      repeat' trivial
      all_goals (simp_all [eqD]; try omega)
  · repeat' trivial
    all_goals (cases d <;> simp_all [isTupD, setupD])
end
end K38

set_option Elab.async false
set_option linter.all false
set_option maxRecDepth 100000
set_option maxHeartbeats 1000000
namespace K38
open PySem PySem.Spec PyProof.Rows L2 Dat
local macro_rules | `(tactic| trivial) => `(tactic| (first
  | (with_reducible refine s_seq ?_)
  | (with_reducible refine s_asg ?_)
  | (with_reducible refine s_ret ?_)
  | (with_reducible refine s_drop ?_)
  | (with_reducible refine s_next ?_)
  | (with_reducible refine s_retN ?_)
  | (with_reducible refine s_brk ?_)
  | (with_reducible refine s_cont ?_)
  | (with_reducible refine s_if ?_)
  | (with_reducible refine e_int ?_)
  | (with_reducible refine e_str ?_)
  | (with_reducible refine e_bl ?_)
  | (with_reducible refine e_non ?_)
  | (with_reducible refine e_ty ?_)
  | (with_reducible refine e_tupD ?_)
  | (with_reducible refine e_lstD ?_)
  | (with_reducible refine e_op ?_)
  | (with_reducible refine e_un ?_)
  | (with_reducible refine e_then ?_)
  | (with_reducible refine e_cb ?_)
  | (with_reducible refine e_call ?_)
  | (with_reducible refine e_if ?_)
  | (with_reducible refine e_chain ?_)
  | (with_reducible refine e_andV ?_)
  | (with_reducible refine e_orV ?_)
  | (with_reducible refine e_notV ?_)
  | (with_reducible refine a_cons ?_)
  | (with_reducible refine a_nil ?_)
  | (with_reducible refine t_test ?_)
  | (with_reducible refine t_B ?_)
  | (with_reducible refine t_not ?_)
  | (with_reducible refine t_and ?_)
  | (with_reducible refine t_or ?_)
  | (with_reducible refine r_I0i ?_)
  | (with_reducible refine r_I0b ?_)
  | (with_reducible refine r_neg ?_)
  | (with_reducible refine r_isN ?_)
  | (with_reducible refine r_notN ?_)
  | (with_reducible refine c_lenT ?_)
  | (with_reducible refine c_lenL ?_)
  | (with_reducible refine c_intI ?_)
  | (with_reducible refine c_intB ?_)
  | (with_reducible refine c_max2 ?_)
  | (with_reducible refine c_min2 ?_)
  | (with_reducible refine c_abs ?_)
  | (with_reducible refine r_tupL ?_)
  | (with_reducible refine r_tupT ?_)
  | (with_reducible refine c_allM ?_)
  | ((with_reducible apply e_var); (exact rfl))
  | ((with_reducible refine r_eq ?_ ?_); (exact rfl))
  | ((with_reducible refine r_ne ?_ ?_); (exact rfl))
  | (with_reducible refine c_isi kit_int ?_)
  | (with_reducible refine c_isi kit_bool ?_)
  | (with_reducible refine c_isi kit_tuple ?_)
  | (with_reducible refine c_isi kit_list ?_)
  | (with_reducible refine c_isi kit_str ?_)
  | ((with_reducible apply r_ixT); (exact rfl))
  | ((with_reducible apply dats_pack); (iterate 40 (first | exact Dats.nil | apply Dats.cons | skip)); (exact rfl))
  | (with_reducible refine s_asgG ?_) | (with_reducible refine g_name ?_) | ((with_reducible refine g_tup ?_ ?_); (exact rfl)) | (refine gs_nil ?_) | (refine gs_cons ?_) | (with_reducible refine ⟨rfl, ?_⟩)
  | (refine ⟨_, rfl, ?_⟩) | (refine ⟨_, _, rfl, ?_⟩) | (refine ⟨_, _, _, rfl, ?_⟩) | (with_reducible refine ⟨fun _ => ?_, fun _ => ?_⟩) | fail))
/-! ### seat rules -/
def spanD : PyData → Bool
  | .tuple [a, b] => inD 0 9 a && (inD 0 9 b && decide (intOf a ≤ intOf b))
  | _ => false
def rowD (ws : List Str) : PyData → Bool
  | .tuple [m, f, l, s, o, d, a] => (inD 0 2 m && ((ws.any fun w => isStr w d) && inD 0 2 a)) && [f, l, s, o].all spanD
  | _ => false
def halfD (ws : List Str) : PyData → Bool
  | .tuple ds => decide (ds.length ≤ 6) && ds.all (rowD ws)
  | _ => false
abbrev seatWs : List Str := ["group", "single", "go"]
def seatsD : PyData → Bool := halfD seatWs
section
variable {P : Program} {w : World} {K : PySem.W.Frag} [Tb K] {mg : Str → Option Value} {base : Heap}
theorem ok_is_span (T : Top K mg) : FnOk P w K mg base CX0 3 T.f_is_span T.d_is_span ["thing"] (spA K (spB spanD)) := by
  have G_is_whole_in : FnOk P w K mg base CX0 2 T.f_is_whole_in T.d_is_whole_in ["thing", "low", "high"] (spA K spIn) := ok_is_whole_in T
  have G_is_pair : FnOk P w K mg base CX0 1 T.f_is_pair T.d_is_pair ["thing"] (spA K (spB pairD)) := ok_is_pair T
  refine fnA_ok T.D_is_span.F sc_is_span (fun as Ω P ⟨d, e, _⟩ => by subst e; rfl) (fun cdv A outer s H E hr => ?_)
  refine ⟨_, (pss_one (ps_ret (pe_and (pe_call G_is_pair (hr.mono (by omega)) rfl T.D_is_pair.g T.D_is_pair.F.kp T.D_is_pair.b .nil pass0 (pa_cons (pv 0) pa_nil)) (pe_and (pe_call G_is_whole_in (hr.mono (by omega)) rfl T.D_is_whole_in.g T.D_is_whole_in.F.kp T.D_is_whole_in.b .nil pass0 (pa_cons (pe_ix (Dat.ixT (K := K) rfl) (pv 0) pe_int (fun _ _ => rfl)) (pa_cons pe_int (pa_cons pe_int pa_nil)))) (pe_and (pe_call G_is_whole_in (hr.mono (by omega)) rfl T.D_is_whole_in.g T.D_is_whole_in.F.kp T.D_is_whole_in.b .nil pass0 (pa_cons (pe_ix (Dat.ixT (K := K) rfl) (pv 0) pe_int (fun _ _ => rfl)) (pa_cons pe_int (pa_cons pe_int pa_nil)))) (pe_one (pe_cmpR op_le (pe_ix (Dat.ixT (K := K) rfl) (pv 0) pe_int (fun _ _ => rfl)) (pe_ix (Dat.ixT (K := K) rfl) (pv 0) pe_int (fun _ _ => rfl)) (nomark _)))))))), ?_⟩
  rintro as Ω P ⟨d, rfl, h⟩
  rcases pair_or' d with ⟨a, b, rfl⟩ | hn
  · refine s_retB (b := spanD (.tuple [a, b])) ?_ h
    refine e_andB (b1 := true) ?_ fun _ => e_andB ?_ fun h1 => e_andB ?_ fun h2 => ?_
    · repeat' trivial
    · repeat' trivial
    · repeat' trivial
    obtain ⟨i, rfl, _⟩ := inD_or h1
    obtain ⟨j, rfl, _⟩ := inD_or h2
    repeat' trivial
  · have e : spanD d = false := by
      cases d <;> try rfl
      rename_i ds
      match ds with
      | [] => rfl
      | [_] => rfl
      | [_, _] => exact absurd hn (by simp [pairD])
      | _ :: _ :: _ :: _ => rfl
    refine s_retB (b := spanD d) ?_ h
    rw [e]
    refine e_andV (e_call (a_cons (e_var rfl (a_nil ⟨d, rfl, _, rfl, fun hw => ?_, fun hw => ⟨rfl, rfl⟩⟩))))
    rw [hn] at hw
    cases hw
abbrev spRow : ASp := fun as Ω P => ∃ d ws, as = [.dat d, .dat (.tuple (List.map PyData.str ws))] ∧ P (.dat (.bool (rowD ws d))) Ω
theorem rowD_no {ws : List Str} {ds : List PyData} (h : ds.length ≠ 7) : rowD ws (.tuple ds) = false := by
  unfold rowD
  split
  · next e => rw [PyData.tuple.inj e] at h; exact absurd rfl h
  · rfl
theorem ok_is_rule_row (T : Top K mg) : FnOk P w K mg base CX0 4 T.f_is_rule_row T.d_is_rule_row ["thing", "deeds"] (spA K spRow) := by
  have G_is_whole_in : FnOk P w K mg base CX0 2 T.f_is_whole_in T.d_is_whole_in ["thing", "low", "high"] (spA K spIn) := ok_is_whole_in T
  have G_is_span : FnOk P w K mg base CX0 3 T.f_is_span T.d_is_span ["thing"] (spA K (spB spanD)) := ok_is_span T
  refine fnA_ok T.D_is_rule_row.F sc_is_rule_row (fun as Ω P ⟨d, ws, e, _⟩ => by subst e; rfl) (fun cdv A outer s H E hr => ?_)
  refine ⟨_, (pss_cons (ps_if (pt_not (PW.pt (pw_and (pt_val (pe_callB (Dat.isiQ (K := K) rfl) rfl T.b_isinstance bt_isinstance (pa_cons (pv 0) (pa_cons (pe_bltn (v := .ty "tuple") rfl T.b_tuple bt_tuple rfl) pa_nil)))) (pw_and1 (pt_cmpR op_eq (pe_callB (Dat.lenQ (K := K) rfl) rfl T.b_len bt_len (pa_cons (pv 0) pa_nil)) pe_int (nomark _))))))
      (pss_one (ps_ret pe_bl))
      pss_nil)
    (pss_cons (ps_if (pt_not (PW.pt (pw_and (pt_val (pe_call G_is_whole_in (hr.mono (by omega)) rfl T.D_is_whole_in.g T.D_is_whole_in.F.kp T.D_is_whole_in.b .nil pass0 (pa_cons (pe_ix (Dat.ixT (K := K) rfl) (pv 0) pe_int (fun _ _ => rfl)) (pa_cons pe_int (pa_cons pe_int pa_nil))))) (pw_and (pt_cmpR (Dat.inStrQ (K := K) rfl (hu64 hr)) (pe_ix (Dat.ixT (K := K) rfl) (pv 0) pe_int (fun _ _ => rfl)) (pv 1) rfl) (pw_and1 (pt_val (pe_call G_is_whole_in (hr.mono (by omega)) rfl T.D_is_whole_in.g T.D_is_whole_in.F.kp T.D_is_whole_in.b .nil pass0 (pa_cons (pe_ix (Dat.ixT (K := K) rfl) (pv 0) pe_int (fun _ _ => rfl)) (pa_cons pe_int (pa_cons pe_int pa_nil))))))))))
      (pss_one (ps_ret pe_bl))
      pss_nil)
    (pss_one (ps_ret (pe_callB (Dat.allQ (K := K) rfl rfl) rfl T.b_all bt_all (pa_cons (pe_lc (own := [("part", 2)]) (g := (gName 2)) (tt := tYes) rfl sc_is_rule_row.nd (Dat.piT (K := K) rfl (pe_slice (Dat.slT (K := K) rfl) (pv 0) (po_some pe_int) (po_some pe_int))) (blkOk_by (N := N_is_rule_row) (sc := defScope s_is_rule_row) (by decide +kernel)) (fun _ _ _ _ _ => (pg_name (i := 2) sc_is_rule_row.nd rfl (Or.inl rfl))) (fun _ _ _ _ _ => pts_nil) (fun _ _ _ _ _ => (pe_call G_is_span (hr.mono (by omega)) rfl T.D_is_span.g T.D_is_span.F.kp T.D_is_span.b .nil pass0 (pa_cons (pv 2) pa_nil)))) pa_nil)))))), ?_⟩
  rintro as Ω P ⟨d, ws, rfl, h⟩
  rcases tup_or d with ⟨ds, rfl⟩ | hn
  · by_cases hl : ds.length = 7
    · match ds, hl with
      | [d1, d2, d3, d4, d5, d6, d7], _ =>
        refine s_seq (s_ifB (b := false) ?_ (fun z => by cases z) fun _ => s_next ?_)
        · repeat' trivial
          all_goals first | (refine ⟨?_, rfl⟩; rfl) | (simp_all [isTupD]; done)
        refine s_seq (s_ifB (b := !(inD 0 2 d1 && ((ws.any fun w => isStr w d6) && inD 0 2 d7))) (t_notB (t_andB (t_ofB ?_) fun _ => t_andB (t_ofC ?_) fun _ => t_ofB ?_)) (fun z => ?_) fun z => s_next ?_)
        · repeat' trivial
        · refine e_op (e_op (e_var rfl (e_int (r_ixT rfl (e_var rfl (r_inStr ⟨rfl, rfl⟩))))))
        · repeat' trivial
        · have : rowD ws (.tuple [d1, d2, d3, d4, d5, d6, d7]) = false := by
            simp only [rowD]
            rw [Bool.not_eq_true'] at z
            rw [z, Bool.false_and]
          rw [this] at h
          exact s_ret (e_bl h)
        · refine s_ret (e_cb (a_cons (e_lcM [d2, d3, d4, d5] .dat (fun d => .bool (spanD d)) (gn_name (by decide)) (by simp) ?_)))
          refine i_tup (e_slT (e_var rfl ⟨_, rfl, o_some (e_int ⟨_, rfl, o_some (e_int ⟨_, rfl, ⟨_, rfl, rfl, fun x Ω' _ _ => g_name ⟨rfl, ?_⟩, ?_⟩⟩)⟩)⟩))
          · repeat' trivial
          · refine a_nil (c_allM ?_)
            have : rowD ws (.tuple [d1, d2, d3, d4, d5, d6, d7]) = [d2, d3, d4, d5].all spanD := by
              simp only [rowD]
              rw [Bool.not_eq_false'] at z
              rw [z, Bool.true_and]
            rw [← this]
            exact h
    · rw [rowD_no hl] at h
      repeat' trivial
      all_goals (simp_all [eqD]; try omega)
  · have e : rowD ws d = false := by cases d <;> first | rfl | cases hn
    rw [e] at h
    repeat' trivial
    all_goals (cases d <;> simp_all [isTupD])
abbrev spHalf : ASp := fun as Ω P => ∃ d ws, as = [.dat d, .dat (.tuple (List.map PyData.str ws))] ∧ P (.dat (.bool (halfD ws d))) Ω
theorem ok_is_half (T : Top K mg) : FnOk P w K mg base CX0 5 T.f_is_half T.d_is_half ["thing", "deeds"] (spA K spHalf) := by
  have G_is_rule_row : FnOk P w K mg base CX0 4 T.f_is_rule_row T.d_is_rule_row ["thing", "deeds"] (spA K spRow) := ok_is_rule_row T
  refine fnA_ok T.D_is_half.F sc_is_half (fun as Ω P ⟨d, ws, e, _⟩ => by subst e; rfl) (fun cdv A outer s H E hr => ?_)
  refine ⟨_, (pss_cons (ps_if (pt_not (PW.pt (pw_and (pt_val (pe_callB (Dat.isiQ (K := K) rfl) rfl T.b_isinstance bt_isinstance (pa_cons (pv 0) (pa_cons (pe_bltn (v := .ty "tuple") rfl T.b_tuple bt_tuple rfl) pa_nil)))) (pw_and1 (pt_cmpR op_le (pe_callB (Dat.lenQ (K := K) rfl) rfl T.b_len bt_len (pa_cons (pv 0) pa_nil)) (pe_glob (v := .int 6) rfl T.c_MOST_RULE_ROWS ⟨_, rfl⟩) (nomark _))))))
      (pss_one (ps_ret pe_bl))
      pss_nil)
    (pss_one (ps_ret (pe_callB (Dat.allQ (K := K) rfl rfl) rfl T.b_all bt_all (pa_cons (pe_lc (own := [("row", 2)]) (g := (gName 2)) (tt := tYes) rfl sc_is_half.nd (Dat.piT (K := K) rfl (pv 0)) (blkOk_by (N := N_is_half) (sc := defScope s_is_half) (by decide +kernel)) (fun _ _ _ _ _ => (pg_name (i := 2) sc_is_half.nd rfl (Or.inl rfl))) (fun _ _ _ _ _ => pts_nil) (fun _ _ _ _ _ => (pe_call G_is_rule_row (hr.mono (by omega)) rfl T.D_is_rule_row.g T.D_is_rule_row.F.kp T.D_is_rule_row.b .nil pass0 (pa_cons (pv 2) (pa_cons (pv 1) pa_nil))))) pa_nil))))), ?_⟩
  rintro as Ω P ⟨d, ws, rfl, h⟩
  rcases tup_or d with ⟨ds, rfl⟩ | hn
  · refine s_seq (s_ifB (b := !(true && decide (ds.length ≤ 6))) (t_notB (t_andB (t_ofB ?_) fun _ => t_ofC ?_)) (fun z => ?_) fun z => s_next ?_)
    · repeat' trivial
    · repeat' trivial
      refine ⟨?_, rfl⟩
      congr 2
      rw [decide_eq_decide]
      omega
    · have : halfD ws (.tuple ds) = false := by
        simp only [halfD]
        rw [Bool.true_and, Bool.not_eq_true'] at z
        rw [z, Bool.false_and]
      rw [this] at h
      exact s_ret (e_bl h)
    · rw [Bool.true_and, Bool.not_eq_false', decide_eq_true_eq] at z
      refine s_ret (e_cb (a_cons (e_lcM ds .dat (fun d => .bool (rowD ws d)) (gn_name (by decide)) (by omega) ?_)))
      refine i_tup (e_var rfl ⟨_, rfl, rfl, fun x Ω' _ _ => g_name ⟨rfl, ?_⟩, ?_⟩)
      · exact e_call (a_cons (e_var rfl (a_cons (e_var rfl (a_nil ⟨x, ws, rfl, rfl, rfl⟩)))))
      · refine a_nil (c_allM ?_)
        have : halfD ws (.tuple ds) = ds.all (rowD ws) := by
          simp only [halfD, decide_eq_true z, Bool.true_and]
        rw [← this]
        exact h
  · have e : halfD ws d = false := by cases d <;> first | rfl | cases hn
    rw [e] at h
    repeat' trivial
    all_goals (cases d <;> simp_all [isTupD])
theorem ok_is_seats (T : Top K mg) : FnOk P w K mg base CX0 6 T.f_is_seats T.d_is_seats ["thing"] (spA K (spB seatsD)) := by
  have G_is_half : FnOk P w K mg base CX0 5 T.f_is_half T.d_is_half ["thing", "deeds"] (spA K spHalf) := ok_is_half T
  refine fnA_ok T.D_is_seats.F sc_is_seats (fun as Ω P ⟨d, e, _⟩ => by subst e; rfl) (fun cdv A outer s H E hr => ?_)
  refine ⟨_, (pss_one (ps_ret (pe_call G_is_half (hr.mono (by omega)) rfl T.D_is_half.g T.D_is_half.F.kp T.D_is_half.b .nil pass0 (pa_cons (pv 0) (pa_cons (pe_glob (v := .ref T.p_SEAT_DEEDS) rfl T.c_SEAT_DEEDS rfl) pa_nil))))), ?_⟩
  rintro as Ω P ⟨d, rfl, h⟩
  exact s_ret (e_call (a_cons (e_var rfl (a_cons (e_K T.v_SEAT_DEEDS (a_nil ⟨d, seatWs, rfl, h⟩))))))
abbrev tubWs : List Str := ["small", "great", "rest"]
def tubsD : PyData → Bool := halfD tubWs
theorem ok_is_tubs (T : Top K mg) : FnOk P w K mg base CX0 6 T.f_is_tubs T.d_is_tubs ["thing"] (spA K (spB tubsD)) := by
  have G_is_half : FnOk P w K mg base CX0 5 T.f_is_half T.d_is_half ["thing", "deeds"] (spA K spHalf) := ok_is_half T
  refine fnA_ok T.D_is_tubs.F sc_is_tubs (fun as Ω P ⟨d, e, _⟩ => by subst e; rfl) (fun cdv A outer s H E hr => ?_)
  refine ⟨_, (pss_one (ps_ret (pe_call G_is_half (hr.mono (by omega)) rfl T.D_is_half.g T.D_is_half.F.kp T.D_is_half.b .nil pass0 (pa_cons (pv 0) (pa_cons (pe_glob (v := .ref T.p_TUB_DEEDS) rfl T.c_TUB_DEEDS rfl) pa_nil))))), ?_⟩
  rintro as Ω P ⟨d, rfl, h⟩
  exact s_ret (e_call (a_cons (e_var rfl (a_cons (e_K T.v_TUB_DEEDS (a_nil ⟨d, tubWs, rfl, h⟩))))))
def ruleD : PyData → Bool
  | .tuple [a, b] => seatsD a && tubsD b
  | _ => false
theorem ok_is_rule (T : Top K mg) : FnOk P w K mg base CX0 7 T.f_is_rule T.d_is_rule ["thing"] (spA K (spB ruleD)) := by
  have G_is_pair : FnOk P w K mg base CX0 1 T.f_is_pair T.d_is_pair ["thing"] (spA K (spB pairD)) := ok_is_pair T
  have G_is_seats : FnOk P w K mg base CX0 6 T.f_is_seats T.d_is_seats ["thing"] (spA K (spB seatsD)) := ok_is_seats T
  have G_is_tubs : FnOk P w K mg base CX0 6 T.f_is_tubs T.d_is_tubs ["thing"] (spA K (spB tubsD)) := ok_is_tubs T
  refine fnA_ok T.D_is_rule.F sc_is_rule (fun as Ω P ⟨d, e, _⟩ => by subst e; rfl) (fun cdv A outer s H E hr => ?_)
  refine ⟨_, (pss_one (ps_ret (pe_and (pe_call G_is_pair (hr.mono (by omega)) rfl T.D_is_pair.g T.D_is_pair.F.kp T.D_is_pair.b .nil pass0 (pa_cons (pv 0) pa_nil)) (pe_and (pe_call G_is_seats (hr.mono (by omega)) rfl T.D_is_seats.g T.D_is_seats.F.kp T.D_is_seats.b .nil pass0 (pa_cons (pe_ix (Dat.ixT (K := K) rfl) (pv 0) pe_int (fun _ _ => rfl)) pa_nil)) (pe_one (pe_call G_is_tubs (hr.mono (by omega)) rfl T.D_is_tubs.g T.D_is_tubs.F.kp T.D_is_tubs.b .nil pass0 (pa_cons (pe_ix (Dat.ixT (K := K) rfl) (pv 0) pe_int (fun _ _ => rfl)) pa_nil))))))), ?_⟩
  rintro as Ω P ⟨d, rfl, h⟩
  rcases pair_or' d with ⟨a, b, rfl⟩ | hn
  · refine s_retB (b := ruleD (.tuple [a, b])) ?_ h
    refine e_andB (b1 := true) ?_ fun _ => e_andB ?_ fun _ => ?_
    · repeat' trivial
    · repeat' trivial
    · repeat' trivial
  · have e : ruleD d = false := by
      cases d <;> try rfl
      rename_i ds
      match ds with
      | [] => rfl
      | [_] => rfl
      | [_, _] => exact absurd hn (by simp [pairD])
      | _ :: _ :: _ :: _ => rfl
    refine s_retB (b := ruleD d) ?_ h
    rw [e]
    refine e_andV (e_call (a_cons (e_var rfl (a_nil ⟨d, rfl, _, rfl, fun hw => ?_, fun hw => ⟨rfl, rfl⟩⟩))))
    rw [hn] at hw
    cases hw
abbrev spChkR : ASp := fun as Ω P => ∃ d, as = [.dat d] ∧ ruleD d = true ∧ P (.dat .none) Ω
theorem ok_check_rule (T : Top K mg) : FnOk P w K mg base CX0 8 T.f_check_rule T.d_check_rule ["thing"] (spA K spChkR) := by
  have G_is_rule : FnOk P w K mg base CX0 7 T.f_is_rule T.d_is_rule ["thing"] (spA K (spB ruleD)) := ok_is_rule T
  refine fnA_ok T.D_check_rule.F sc_check_rule (fun as Ω P ⟨d, e, _⟩ => by subst e; rfl) (fun cdv A outer s H E hr => ?_)
  refine ⟨_, (pss_one (ps_if (pt_not (pt_val (pe_call G_is_rule (hr.mono (by omega)) rfl T.D_is_rule.g T.D_is_rule.F.kp T.D_is_rule.b .nil pass0 (pa_cons (pv 0) pa_nil))))
      (pss_one ps_dead)
      pss_nil)), ?_⟩
  rintro as Ω P ⟨d, rfl, hs, h⟩
  refine s_ifB (b := !ruleD d) (t_notB (t_ofC ?_)) (fun z => ?_) fun _ => s_next h
  · repeat' trivial
  · rw [hs] at z
    cases z
/-! ### comers -/
abbrev spChk : ASp := fun as Ω P => ∃ d, as = [.dat d] ∧ setupD d = true ∧ P (.dat .none) Ω
theorem ok_check_setup (T : Top K mg) : FnOk P w K mg base CX0 5 T.f_check_setup T.d_check_setup ["thing"] (spA K spChk) := by
  have G_is_setup : FnOk P w K mg base CX0 4 T.f_is_setup T.d_is_setup ["thing"] (spA K (spB setupD)) := ok_is_setup T
  refine fnA_ok T.D_check_setup.F sc_check_setup (fun as Ω P ⟨d, e, _⟩ => by subst e; rfl) (fun cdv A outer s H E hr => ?_)
  refine ⟨_, (pss_one (ps_if (pt_not (pt_val (pe_call G_is_setup (hr.mono (by omega)) rfl T.D_is_setup.g T.D_is_setup.F.kp T.D_is_setup.b .nil pass0 (pa_cons (pv 0) pa_nil))))
      (pss_one ps_dead)
      pss_nil)), ?_⟩
  rintro as Ω P ⟨d, rfl, hs, h⟩
  refine s_ifB (b := !setupD d) (t_notB (t_ofC ?_)) (fun z => ?_) fun _ => s_next h
  · repeat' trivial
  · rw [hs] at z
    cases z
end
end K38

set_option Elab.async false
set_option linter.all false
set_option maxRecDepth 100000
set_option maxHeartbeats 1000000
namespace K38
open PySem PySem.Spec PyProof.Rows L2 Dat
local macro_rules | `(tactic| trivial) => `(tactic| (first
  | (with_reducible refine s_seq ?_)
  | (with_reducible refine s_asg ?_)
  | (with_reducible refine s_ret ?_)
  | (with_reducible refine s_drop ?_)
  | (with_reducible refine s_next ?_)
  | (with_reducible refine s_retN ?_)
  | (with_reducible refine s_brk ?_)
  | (with_reducible refine s_cont ?_)
  | (with_reducible refine s_if ?_)
  | (with_reducible refine e_int ?_)
  | (with_reducible refine e_str ?_)
  | (with_reducible refine e_bl ?_)
  | (with_reducible refine e_non ?_)
  | (with_reducible refine e_ty ?_)
  | (with_reducible refine e_tupD ?_)
  | (with_reducible refine e_lstD ?_)
  | (with_reducible refine e_op ?_)
  | (with_reducible refine e_un ?_)
  | (with_reducible refine e_then ?_)
  | (with_reducible refine e_cb ?_)
  | (with_reducible refine e_call ?_)
  | (with_reducible refine e_if ?_)
  | (with_reducible refine e_chain ?_)
  | (with_reducible refine e_andV ?_)
  | (with_reducible refine e_orV ?_)
  | (with_reducible refine e_notV ?_)
  | (with_reducible refine a_cons ?_)
  | (with_reducible refine a_nil ?_)
  | (with_reducible refine t_test ?_)
  | (with_reducible refine t_B ?_)
  | (with_reducible refine t_not ?_)
  | (with_reducible refine t_and ?_)
  | (with_reducible refine t_or ?_)
  | (with_reducible refine r_I0i ?_)
  | (with_reducible refine r_I0b ?_)
  | (with_reducible refine r_neg ?_)
  | (with_reducible refine r_isN ?_)
  | (with_reducible refine r_notN ?_)
  | (with_reducible refine c_lenT ?_)
  | (with_reducible refine c_lenL ?_)
  | (with_reducible refine c_intI ?_)
  | (with_reducible refine c_intB ?_)
  | (with_reducible refine c_max2 ?_)
  | (with_reducible refine c_min2 ?_)
  | (with_reducible refine c_abs ?_)
  | (with_reducible refine r_tupL ?_)
  | (with_reducible refine r_tupT ?_)
  | (with_reducible refine c_allM ?_)
  | ((with_reducible apply e_var); (exact rfl))
  | ((with_reducible refine r_eq ?_ ?_); (exact rfl))
  | ((with_reducible refine r_ne ?_ ?_); (exact rfl))
  | (with_reducible refine c_isi kit_int ?_)
  | (with_reducible refine c_isi kit_bool ?_)
  | (with_reducible refine c_isi kit_tuple ?_)
  | (with_reducible refine c_isi kit_list ?_)
  | (with_reducible refine c_isi kit_str ?_)
  | ((with_reducible apply r_ixT); (exact rfl))
  | ((with_reducible apply dats_pack); (iterate 40 (first | exact Dats.nil | apply Dats.cons | skip)); (exact rfl))
  | (with_reducible refine s_asgG ?_) | (with_reducible refine g_name ?_) | ((with_reducible refine g_tup ?_ ?_); (exact rfl)) | (refine gs_nil ?_) | (refine gs_cons ?_) | (with_reducible refine ⟨rfl, ?_⟩)
  | (refine ⟨_, rfl, ?_⟩) | (refine ⟨_, _, rfl, ?_⟩) | (refine ⟨_, _, _, rfl, ?_⟩) | (with_reducible refine ⟨fun _ => ?_, fun _ => ?_⟩) | fail))
def CPowB (i j : Int) : Prop := 0 ≤ j ∧ (Builtin.Int.intBits i : Int) * j ≤ 2 ^ 27
theorem op_powB {X : Cx} : OpR X (binaryOp .Pow) (rI CPowB fun i j => .int (i ^ j.toNat)) := opI fun _ _ _ _ _ _ _ hc q => pow_int hc.1 hc.2 q
theorem pow3 {i : Int} (h1 : -(2 ^ 300) < i) (h2 : i < 2 ^ 300) : CPowB i 3 := by
  have e : ((2 ^ 300 : Nat) : Int) = (2 : Int) ^ 300 := by decide +kernel
  have h : i.natAbs < 2 ^ 300 := by
    generalize (2 ^ 300 : Nat) = N at *
    generalize (2 : Int) ^ 300 = M at *
    omega
  have := PySem.intBits_le_iff.mpr h
  exact ⟨by decide, by omega⟩
section
variable {P : Program} {w : World} {K : PySem.W.Frag} [Tb K] {mg : Str → Option Value} {base : Heap}
/-! ### the source -/
abbrev deckL (a b c : Int) : List Av := [.dat (.int a), .dat (.int b), .dat (.int c)]
structure DkOk (n : Nat) (b c : Int) : Prop where
  b0 : 0 ≤ b
  b1 : b < 2 ^ 200
  c0 : 0 ≤ c
  c1 : c ≤ n
theorem DkOk.mono {n m : Nat} {b c : Int} (h : DkOk n b c) (l : n ≤ m) : DkOk m b c := ⟨h.b0, h.b1, h.c0, by have := h.c1; omega⟩
abbrev spSrc : ASp := fun as Ω P => ∃ (ns : List Int) (k : Nat), as = [.scr ns, .dat (.int k)] ∧ k ≤ 100 ∧ ∀ p a b c, Ω p = none → DkOk 0 b c → P (.ptr p) (put Ω p (deckL a b c))
theorem ok_src (T : Top K mg) : FnOk P w K mg base CX0 1 T.f__law_source T.d__law_source ["_law_script", "_law_index"] (spA K spSrc) := by
  refine fnA_ok T.D__law_source.F sc__law_source (fun as Ω P ⟨ns, k, e, _⟩ => by subst e; rfl) (fun cdv A outer s H E hr => ?_)
  refine ⟨_, (pss_cons (ps_set (i := 2) sc__law_source.nd rfl (.inl rfl) pe_int)
    (pss_cons (ps_if (pt_cmpR op_lt (pv 1) (pe_callB (Dat.lenQ (K := K) rfl) rfl T.b_len bt_len (pa_cons (pv 0) pa_nil)) (nomark _))
      (pss_one (ps_set (i := 2) sc__law_source.nd rfl (.inl rfl) (pe_ix (Dat.ixL (K := K) rfl) (pv 0) (pv 1) (fun _ _ => rfl))))
      pss_nil)
    (pss_one (ps_ret (pe_lst (pa_cons (pe_callB (Dat.cl_max2 rfl) rfl T.b_max bt_max (pa_cons pe_int (pa_cons (pe_op op_sub (pv 2) (pe_op op_pow pe_int pe_int)) pa_nil))) (pa_cons (pe_op op_add (pe_op op_mod (pe_callTy Dat.cl_int rfl T.b_int bt_int (pa_cons (pv 2) pa_nil)) (pe_op op_add (pe_op op_pow pe_int pe_int) pe_int)) (pe_op op_mul pe_int (pv 1))) (pa_cons pe_int pa_nil)))))))), ?_⟩
  rintro as Ω P ⟨ns, k, rfl, hk, h⟩
  refine s_seq (s_asg (e_int ?_))
  refine s_seqM (fun Γ' Ω' => ∃ cell : Int, Γ' = [some (.scr ns), some (.dat (.int k)), some (.dat (.int cell))] ∧ Ω' = Ω) ?_ ?_
  · refine s_if (t_test (e_op (e_var rfl (e_cb (a_cons (e_var rfl (a_nil (c_lenS (r_I0b ⟨_, rfl, fun hb => ?_, fun _ => s_next ⟨_, rfl, rfl⟩⟩)))))))))
    have hk : k < ns.length := by
      have := of_decide_eq_true hb
      omega
    exact s_asg (e_op (e_var rfl (e_var rfl (r_ixS (n := ns[k]) (atI_nat' (List.getElem?_eq_getElem hk)) ⟨_, rfl, rfl⟩))))
  rintro Γ' Ω' ⟨cell, rfl, rfl⟩
  refine s_ret (e_lstP (a_cons (e_cb (a_cons (e_int (a_cons (e_op (e_var rfl (e_op (e_int (e_int (r_Ii (by exact ⟨by decide, by decide, by decide⟩) (r_I0i (a_nil (c_max2 ?_)))))))))))))))
  refine a_cons (e_op (e_op (e_cb (a_cons (e_var rfl (a_nil (c_intI (e_op (e_op (e_int (e_int (r_Ii (by exact ⟨by decide, by decide, by decide⟩) (e_int (r_I0i (r_Ii (by show (0 : Int) < 10 ^ (37 : Int).toNat + 43; decide +kernel) ?_)))))))))))))))
  refine e_op (e_int (e_var rfl (r_Ii (by exact .inl ⟨by decide, by decide⟩) (r_I0i (a_cons (e_int (a_nil ⟨by simp, fun p hp => h p _ _ _ hp ⟨?_, ?_, by decide, by decide⟩⟩)))))))
  · have := Int.emod_nonneg cell (show (10 ^ (37 : Int).toNat + 43 : Int) ≠ 0 by decide +kernel)
    omega
  · have h1 := Int.emod_lt_of_pos cell (show (0 : Int) < 10 ^ (37 : Int).toNat + 43 by decide +kernel)
    have e : (10 ^ (37 : Int).toNat + 43 : Int) < 2 ^ 190 := by decide +kernel
    have e2 : (2 ^ 190 : Int) + 1299709 * 100 < 2 ^ 200 := by decide +kernel
    omega
abbrev spDraw : ASp := fun as Ω P => ∃ (Ω0 : AH) (p : Addr) (m a b c : Int) (n : Nat), as = [.ptr p, .dat (.int m)] ∧ Ω = put Ω0 p (deckL a b c) ∧ DkOk n b c ∧ n ≤ 5000 ∧ 1 ≤ m ∧ m ≤ 1000000000 ∧ ∀ v a' b' c', DkOk (n + 1) b' c' → 0 ≤ v → v < m → P (.dat (.int v)) (put Ω0 p (deckL a' b' c'))
theorem ok_draw (T : Top K mg) : FnOk P w K mg base CX0 1 T.f__law_draw T.d__law_draw ["_law_source_here", "_law_bound"] (spA K spDraw) := by
  refine fnA_ok T.D__law_draw.F sc__law_draw (fun as Ω P ⟨Ω0, p, m, a, b, c, n, e, _⟩ => by subst e; rfl) (fun cdv A outer s H E hr => ?_)
  refine ⟨_, (pss_cons (ps_if (pt_cmpR op_gt (pe_ix (Dat.ixL (K := K) rfl) (pv 0) pe_int (fun _ _ => rfl)) pe_int (nomark _))
      (pss_cons (ps_set (i := 2) sc__law_draw.nd rfl (.inl rfl) (pe_op op_mod (pe_callTy Dat.cl_int rfl T.b_int bt_int (pa_cons (pe_ix (Dat.ixL (K := K) rfl) (pv 0) pe_int (fun _ _ => rfl)) pa_nil)) (pv 1)))
      (pss_cons (ps_asg (pe_op op_fdiv (pe_ix (Dat.ixL (K := K) rfl) (pv 0) pe_int (fun _ _ => rfl)) (pv 1)) (pg_sub (pv 0) pe_int set_list))
      (pss_one (ps_ret (pv 2)))))
      pss_nil)
    (pss_cons (ps_asg (pe_op op_add (pe_ix (Dat.ixL (K := K) rfl) (pv 0) pe_int (fun _ _ => rfl)) pe_int) (pg_sub (pv 0) pe_int set_list))
    (pss_cons (ps_set (i := 3) sc__law_draw.nd rfl (.inl rfl) (pe_op op_mod (pe_callTy Dat.cl_int rfl T.b_int bt_int (pa_cons (pe_op op_powB (pe_op op_add (pe_ix (Dat.ixL (K := K) rfl) (pv 0) pe_int (fun _ _ => rfl)) (pe_op op_mul pe_int (pe_ix (Dat.ixL (K := K) rfl) (pv 0) pe_int (fun _ _ => rfl)))) pe_int) pa_nil)) (pe_op op_add (pe_op op_pow pe_int pe_int) pe_int)))
    (pss_cons (ps_set (i := 3) sc__law_draw.nd rfl (.inl rfl) (pe_op op_mod (pe_callTy Dat.cl_int rfl T.b_int bt_int (pa_cons (pe_op op_powB (pe_op op_add (pv 3) (pe_op op_mul pe_int (pe_ix (Dat.ixL (K := K) rfl) (pv 0) pe_int (fun _ _ => rfl)))) pe_int) pa_nil)) (pe_op op_add (pe_op op_pow pe_int pe_int) pe_int)))
    (pss_one (ps_ret (pe_op op_mod (pe_op op_fdiv (pe_callTy Dat.cl_int rfl T.b_int bt_int (pa_cons (pv 3) pa_nil)) pe_int) (pv 1)))))))), ?_⟩
  rintro as Ω P ⟨Ω0, p, m, a, b, c, n, rfl, rfl, dk, hn, m1, m2, h⟩
  have at0 : ∀ x y z : Int, atI (deckL x y z) 0 = some (.dat (.int x)) := fun _ _ _ => rfl
  have at1 : ∀ x y z : Int, atI (deckL x y z) 1 = some (.dat (.int y)) := fun _ _ _ => rfl
  have at2 : ∀ x y z : Int, atI (deckL x y z) 2 = some (.dat (.int z)) := fun _ _ _ => rfl
  have b0 := dk.b0
  have b1 := dk.b1
  have c0 := dk.c0
  have c1 := dk.c1
  have dk1 : DkOk (n + 1) b (c + 1) := ⟨b0, b1, by omega, by push_cast; omega⟩
  refine s_seq (s_if (t_test (e_op (e_op (e_var rfl (e_int (r_ixP put_same (at0 a b c) (e_int (r_I0b ⟨_, rfl, fun _ => ?_, fun _ => s_next ?_⟩)))))))))
  · refine s_seq (s_asg (e_op (e_cb (a_cons (e_op (e_var rfl (e_int (r_ixP put_same (at0 a b c) (a_nil (c_intI (e_var rfl (r_Ii (by show (0 : Int) < m; omega) ?_))))))))))))
    refine s_seq (s_setL (e_op (e_op (e_var rfl (e_int (r_ixP put_same (at0 a b c) (e_var rfl (r_Ii (by exact ⟨by omega, by omega⟩) (e_var rfl ⟨p, rfl, e_int ⟨0, _, 0, rfl, put_same, rfl, ?_⟩⟩)))))))))
    refine s_ret (e_var rfl ?_)
    rw [put_put]
    exact h _ _ _ _ (dk.mono (by omega)) (Int.emod_nonneg _ (by omega)) (Int.emod_lt_of_pos _ (by omega))
  refine s_seq (s_setL (e_op (e_op (e_var rfl (e_int (r_ixP put_same (at2 a b c) (e_int (r_I0i (e_var rfl ⟨p, rfl, e_int ⟨2, _, 2, rfl, put_same, rfl, ?_⟩⟩)))))))))
  show SW K _ _ (put (put Ω0 p (deckL a b c)) p (deckL a b (c + 1))) _
  rw [put_put]
  have big : (2 ^ 200 : Int) + 15485863 * 5001 < 2 ^ 300 := by decide +kernel
  have big2 : (10 ^ (35 : Int).toNat + 69 : Int) + 32452843 * 5001 < 2 ^ 300 := by decide +kernel
  have hc5 : c + 1 ≤ 5001 := by omega
  refine s_seqM (fun Γ' Ω' => ∃ x : Int, 0 ≤ x ∧ x < 10 ^ (35 : Int).toNat + 69 ∧ Γ' = [some (.ptr p), some (.dat (.int m)), none, some (.dat (.int x))] ∧ Ω' = put Ω0 p (deckL a b (c + 1))) ?_ ?_
  · refine s_asg (e_op (e_cb (a_cons (e_op (e_op (e_op (e_var rfl (e_int (r_ixP put_same (at1 a b (c + 1)) (e_op (e_int (e_op (e_var rfl (e_int (r_ixP put_same (at2 a b (c + 1)) (r_Ii (by exact .inl ⟨by decide, by decide⟩) (r_I0i (e_int (r_Ii ?_ ?_)))))))))))))))))))
    · exact pow3 (by omega) (by omega)
    refine a_nil (c_intI (e_op (e_op (e_int (e_int (r_Ii (by exact ⟨by decide, by decide, by decide⟩) (e_int (r_I0i (r_Ii (by show (0 : Int) < 10 ^ (35 : Int).toNat + 69; decide +kernel) ?_)))))))))
    exact ⟨_, Int.emod_nonneg _ (by decide +kernel), Int.emod_lt_of_pos _ (by decide +kernel), rfl, rfl⟩
  rintro Γ' Ω' ⟨x, x0, x1, rfl, rfl⟩
  refine s_seqM (fun Γ' Ω' => ∃ x : Int, Γ' = [some (.ptr p), some (.dat (.int m)), none, some (.dat (.int x))] ∧ Ω' = put Ω0 p (deckL a b (c + 1))) ?_ ?_
  · refine s_asg (e_op (e_cb (a_cons (e_op (e_op (e_var rfl (e_op (e_int (e_op (e_var rfl (e_int (r_ixP put_same (at2 a b (c + 1)) (r_Ii (by exact .inl ⟨by decide, by decide⟩) (r_I0i (e_int (r_Ii ?_ ?_))))))))))))))))
    · exact pow3 (by omega) (by omega)
    exact a_nil (c_intI (e_op (e_op (e_int (e_int (r_Ii (by exact ⟨by decide, by decide, by decide⟩) (e_int (r_I0i (r_Ii (by show (0 : Int) < 10 ^ (32 : Int).toNat + 49; decide +kernel) ⟨_, rfl, rfl⟩)))))))))
  rintro Γ' Ω' ⟨x, rfl, rfl⟩
  refine s_ret (e_op (e_op (e_cb (a_cons (e_var rfl (a_nil (c_intI (e_int (r_Ii (by exact ⟨by decide, by decide⟩) (e_var rfl (r_Ii (by show (0 : Int) < m; omega) ?_)))))))))))
  exact h _ _ _ _ dk1 (Int.emod_nonneg _ (by omega)) (Int.emod_lt_of_pos _ (by omega))
/-- a draw from the source in a slot -/
theorem e_draw {Γ : List (Option Av)} {Ω0 : AH} {p : Addr} {i : Nat} {a b c : Int} {te : TE} {X : XK} {P : Av → AH → Prop} (hi : Γ[i]? = some (some (.ptr p)))
    (h : EW K te Γ (put Ω0 p (deckL a b c)) fun z Ω1 => ∃ m a1 b1 c1 n, z = .dat (.int m) ∧ Ω1 = put Ω0 p (deckL a1 b1 c1) ∧ DkOk n b1 c1 ∧ n ≤ 5000 ∧ 1 ≤ m ∧ m ≤ 1000000000 ∧ ∀ v a' b' c', DkOk (n + 1) b' c' → 0 ≤ v → v < m → P (.dat (.int v)) (put Ω0 p (deckL a' b' c'))) :
    EW K (tCall (spA K spDraw) [] X (tCons (tVar i) (tCons te tNil))) Γ (put Ω0 p (deckL a b c)) P :=
  e_call (a_cons (e_var hi (a_cons (h.mono fun z Ω1 ⟨m, a1, b1, c1, n, e1, e2, dk, hn, m1, m2, q⟩ => a_nil ⟨Ω0, p, m, a1, b1, c1, n, by rw [e1], e2, dk, hn, m1, m2, q⟩))))
theorem e_drawN {Γ : List (Option Av)} {Ω0 : AH} {p : Addr} {i : Nat} {m a b c : Int} {n : Nat} {X : XK} {P : Av → AH → Prop} (hi : Γ[i]? = some (some (.ptr p))) (dk : DkOk n b c) (hn : n ≤ 5000) (m1 : 1 ≤ m) (m2 : m ≤ 1000000000)
    (h : ∀ v a' b' c', DkOk (n + 1) b' c' → 0 ≤ v → v < m → P (.dat (.int v)) (put Ω0 p (deckL a' b' c'))) :
    EW K (tCall (spA K spDraw) [] X (tCons (tVar i) (tCons (tC (.int m)) tNil))) Γ (put Ω0 p (deckL a b c)) P :=
  e_draw hi (e_int ⟨m, a, b, c, n, rfl, rfl, dk, hn, m1, m2, h⟩)
theorem r_ixT_any {Ω : AH} {ds : List PyData} {v : Int} {P : Av → AH → Prop} (h0 : 0 ≤ v) (h1 : v < ds.length) (h : ∀ d ∈ ds, P (.dat d) Ω) : R2W K (rIxT K) (.dat (.tuple ds)) (.dat (.int v)) Ω P := by
  obtain ⟨n, rfl⟩ : ∃ n : Nat, v = n := ⟨v.toNat, (Int.toNat_of_nonneg h0).symm⟩
  have hn : n < ds.length := by omega
  exact r_ixT (atI_nat' (List.getElem?_eq_getElem hn)) (h _ (List.getElem_mem hn))
theorem inD_of {lo hi i : Int} (h0 : lo ≤ i) (h1 : i ≤ hi) : inD lo hi (.int i) = true := by
  simp [inD, h0, h1]
end
end K38

set_option Elab.async false
set_option linter.all false
set_option maxRecDepth 100000
set_option maxHeartbeats 1000000
namespace K38
open PySem PySem.Spec PyProof.Rows L2 Dat
local macro_rules | `(tactic| trivial) => `(tactic| (first
  | (with_reducible refine s_seq ?_)
  | (with_reducible refine s_asg ?_)
  | (with_reducible refine s_ret ?_)
  | (with_reducible refine s_drop ?_)
  | (with_reducible refine s_next ?_)
  | (with_reducible refine s_retN ?_)
  | (with_reducible refine s_brk ?_)
  | (with_reducible refine s_cont ?_)
  | (with_reducible refine s_if ?_)
  | (with_reducible refine e_int ?_)
  | (with_reducible refine e_str ?_)
  | (with_reducible refine e_bl ?_)
  | (with_reducible refine e_non ?_)
  | (with_reducible refine e_ty ?_)
  | (with_reducible refine e_tupD ?_)
  | (with_reducible refine e_lstD ?_)
  | (with_reducible refine e_op ?_)
  | (with_reducible refine e_un ?_)
  | (with_reducible refine e_then ?_)
  | (with_reducible refine e_cb ?_)
  | (with_reducible refine e_call ?_)
  | (with_reducible refine e_if ?_)
  | (with_reducible refine e_chain ?_)
  | (with_reducible refine e_andV ?_)
  | (with_reducible refine e_orV ?_)
  | (with_reducible refine e_notV ?_)
  | (with_reducible refine a_cons ?_)
  | (with_reducible refine a_nil ?_)
  | (with_reducible refine t_test ?_)
  | (with_reducible refine t_B ?_)
  | (with_reducible refine t_not ?_)
  | (with_reducible refine t_and ?_)
  | (with_reducible refine t_or ?_)
  | (with_reducible refine r_I0i ?_)
  | (with_reducible refine r_I0b ?_)
  | (with_reducible refine r_neg ?_)
  | (with_reducible refine r_isN ?_)
  | (with_reducible refine r_notN ?_)
  | (with_reducible refine c_lenT ?_)
  | (with_reducible refine c_lenL ?_)
  | (with_reducible refine c_intI ?_)
  | (with_reducible refine c_intB ?_)
  | (with_reducible refine c_max2 ?_)
  | (with_reducible refine c_min2 ?_)
  | (with_reducible refine c_abs ?_)
  | (with_reducible refine r_tupL ?_)
  | (with_reducible refine r_tupT ?_)
  | (with_reducible refine c_allM ?_)
  | ((with_reducible apply e_var); (exact rfl))
  | ((with_reducible refine r_eq ?_ ?_); (exact rfl))
  | ((with_reducible refine r_ne ?_ ?_); (exact rfl))
  | (with_reducible refine c_isi kit_int ?_)
  | (with_reducible refine c_isi kit_bool ?_)
  | (with_reducible refine c_isi kit_tuple ?_)
  | (with_reducible refine c_isi kit_list ?_)
  | (with_reducible refine c_isi kit_str ?_)
  | ((with_reducible apply r_ixT); (exact rfl))
  | ((with_reducible apply dats_pack); (iterate 40 (first | exact Dats.nil | apply Dats.cons | skip)); (exact rfl))
  | (with_reducible refine s_asgG ?_) | (with_reducible refine g_name ?_) | ((with_reducible refine g_tup ?_ ?_); (exact rfl)) | (refine gs_nil ?_) | (refine gs_cons ?_) | (with_reducible refine ⟨rfl, ?_⟩)
  | (refine ⟨_, rfl, ?_⟩) | (refine ⟨_, _, rfl, ?_⟩) | (refine ⟨_, _, _, rfl, ?_⟩) | (with_reducible refine ⟨fun _ => ?_, fun _ => ?_⟩) | fail))
/-! ### setups, rows of a rule, comers: what they are -/
abbrev itup (ns : List Int) : PyData := .tuple (ns.map PyData.int)
abbrev rng (lo hi : Int) : PyData := .tuple [.int lo, .int hi]
structure Shop where
  n : Int
  sizes : List Int
  r1 : Int
  r2 : Int
  c1 : Int
  c2 : Int
  kinds : List Int
  life : Int
  prices : PyData
abbrev Shop.enc (s : Shop) : PyData := .tuple [.int s.n, itup s.sizes, .tuple [.int s.r1, .int s.r2], .tuple [.int s.c1, .int s.c2], itup s.kinds, .int s.life, s.prices]
structure Shop.Ok (s : Shop) : Prop where
  n1 : 1 ≤ s.n
  n4 : s.n ≤ 4
  z1 : 1 ≤ s.sizes.length
  z2 : s.sizes.length ≤ 2
  zb : ∀ z ∈ s.sizes, 1 ≤ z ∧ z ≤ s.n
  r11 : 1 ≤ s.r1
  r12 : s.r1 ≤ 2
  r20 : 0 ≤ s.r2
  r22 : s.r2 ≤ 2
  c10 : 0 ≤ s.c1
  c11 : s.c1 ≤ 1
  c20 : 0 ≤ s.c2
  c22 : s.c2 ≤ 2
  k1 : 1 ≤ s.kinds.length
  k2 : s.kinds.length ≤ 2
  kb : ∀ z ∈ s.kinds, 1 ≤ z ∧ z ≤ 4
  l1 : 1 ≤ s.life
  l3 : s.life ≤ 3
  d : setupD s.enc = true
structure Rw where
  m : Int
  f : Int × Int
  l : Int × Int
  s : Int × Int
  o : Int × Int
  d : Str
  a : Int
abbrev Rw.enc (r : Rw) : PyData := .tuple [.int r.m, rng r.f.1 r.f.2, rng r.l.1 r.l.2, rng r.s.1 r.s.2, rng r.o.1 r.o.2, .str r.d, .int r.a]
def sOk (p : Int × Int) : Prop := 0 ≤ p.1 ∧ p.1 ≤ p.2 ∧ p.2 ≤ 9
structure Rw.Ok (ws : List Str) (r : Rw) : Prop where
  m0 : 0 ≤ r.m
  m2 : r.m ≤ 2
  f : sOk r.f
  l : sOk r.l
  s : sOk r.s
  o : sOk r.o
  d : r.d ∈ ws
  a0 : 0 ≤ r.a
  a2 : r.a ≤ 2
theorem span_rng {lo hi : Int} (h0 : 0 ≤ lo) (h1 : lo ≤ hi) (h2 : hi ≤ 9) : spanD (rng lo hi) = true := by
  simp [spanD, inD_of h0 (show lo ≤ 9 by omega), inD_of (show 0 ≤ hi by omega) h2, intOf, h1]
theorem Rw.Ok.rowD {ws : List Str} {r : Rw} (h : r.Ok ws) : K38.rowD ws r.enc = true := by
  have e1 : K38.inD 0 2 (.int r.m) = true := inD_of h.m0 h.m2
  have e2 : K38.inD 0 2 (.int r.a) = true := inD_of h.a0 h.a2
  have s1 := span_rng h.f.1 h.f.2.1 h.f.2.2
  have s2 := span_rng h.l.1 h.l.2.1 h.l.2.2
  have s3 := span_rng h.s.1 h.s.2.1 h.s.2.2
  have s4 := span_rng h.o.1 h.o.2.1 h.o.2.2
  have e3 : (ws.any fun w => isStr w (.str r.d)) = true := List.any_eq_true.mpr ⟨r.d, h.d, by simp [isStr]⟩
  simp only [K38.rowD, e1, e2, e3, s1, s2, s3, s4, List.all_cons, List.all_nil, Bool.and_self]
abbrev rules (rs : List Rw) : PyData := .tuple (rs.map Rw.enc)
structure RsOk (ws : List Str) (rs : List Rw) : Prop where
  len : rs.length ≤ 6
  all : ∀ r ∈ rs, r.Ok ws
theorem RsOk.halfD {ws : List Str} {rs : List Rw} (h : RsOk ws rs) : K38.halfD ws (rules rs) = true := by
  simp only [K38.halfD, List.length_map, Bool.and_eq_true, decide_eq_true_eq, List.all_eq_true]
  refine ⟨h.len, fun d hd => ?_⟩
  obtain ⟨r, hr, rfl⟩ := List.mem_map.mp hd
  exact (h.all r hr).rowD
structure Com where
  gs : List Int
  k : Int
abbrev Com.enc (c : Com) : PyData := .tuple [itup c.gs, .int c.k]
structure Com.Ok (s : Shop) (c : Com) : Prop where
  g : (c.gs.length : Int) ≤ s.c1
  z : ∀ x ∈ c.gs, x ∈ s.sizes
  k0 : 0 ≤ c.k
  k1 : c.k ≤ s.c2
section
variable {P : Program} {w : World} {K : PySem.W.Frag} [Tb K] {mg : Str → Option Value} {base : Heap}
/-! ### spans, rules drawn -/
abbrev spSpan : ASp := fun as Ω P => ∃ (Ω0 : AH) (p : Addr) (a b c : Int) (n : Nat), as = [.ptr p] ∧ Ω = put Ω0 p (deckL a b c) ∧ DkOk n b c ∧ n ≤ 4900 ∧ ∀ q a' b' c', DkOk (n + 3) b' c' → sOk q → P (.dat (rng q.1 q.2)) (put Ω0 p (deckL a' b' c'))
theorem ok_span (T : Top K mg) : FnOk P w K mg base CX0 2 T.f__law_span T.d__law_span ["_law_source_here"] (spA K spSpan) := by
  have G__law_draw : FnOk P w K mg base CX0 1 T.f__law_draw T.d__law_draw ["_law_source_here", "_law_bound"] (spA K spDraw) := ok_draw T
  refine fnA_ok T.D__law_span.F sc__law_span (fun as Ω P ⟨Ω0, p, a, b, c, n, e, _⟩ => by subst e; rfl) (fun cdv A outer s H E hr => ?_)
  refine ⟨_, (pss_cons (ps_set (i := 1) sc__law_span.nd rfl (.inl rfl) (pe_call G__law_draw (hr.mono (by omega)) rfl T.D__law_draw.g T.D__law_draw.F.kp T.D__law_draw.b .nil pass0 (pa_cons (pv 0) (pa_cons pe_int pa_nil))))
    (pss_one (ps_ret (pe_ix (Dat.ixL (K := K) rfl) (pe_lst (pa_cons (pe_tup (pa_cons pe_int (pa_cons pe_int pa_nil))) (pa_cons (pe_tup (pa_cons pe_int (pa_cons pe_int pa_nil))) (pa_cons (pe_tup (pa_cons (pv 1) (pa_cons pe_int pa_nil))) (pa_cons (pe_tup (pa_cons pe_int (pa_cons (pv 1) pa_nil))) (pa_cons (pe_tup (pa_cons (pv 1) (pa_cons (pe_callB (Dat.cl_min2 rfl) rfl T.b_min bt_min (pa_cons pe_int (pa_cons (pe_op op_add (pv 1) (pe_call G__law_draw (hr.mono (by omega)) rfl T.D__law_draw.g T.D__law_draw.F.kp T.D__law_draw.b .nil pass0 (pa_cons (pv 0) (pa_cons pe_int pa_nil)))) pa_nil))) pa_nil))) pa_nil)))))) (pe_call G__law_draw (hr.mono (by omega)) rfl T.D__law_draw.g T.D__law_draw.F.kp T.D__law_draw.b .nil pass0 (pa_cons (pv 0) (pa_cons pe_int pa_nil))) (fun _ _ => rfl))))), ?_⟩
  rintro as Ω P ⟨Ω0, p, a, b, c, n, rfl, rfl, dk, hn, h⟩
  refine s_seq (s_asg (e_drawN rfl dk (by omega) (by decide) (by decide) fun x a b c dk x0 x1 => ?_))
  refine s_ret (e_op (e_lstD (a_cons (e_tupD (a_cons (e_int (a_cons (e_int (a_nil ⟨[.int 0, .int 9], .cons (.cons .nil), rfl, ?_⟩)))))))))
  refine a_cons (e_tupD (a_cons (e_int (a_cons (e_int (a_nil ⟨[.int 0, .int 9], .cons (.cons .nil), rfl, ?_⟩))))))
  refine a_cons (e_tupD (a_cons (e_var rfl (a_cons (e_int (a_nil ⟨[.int x, .int 9], .cons (.cons .nil), rfl, ?_⟩))))))
  refine a_cons (e_tupD (a_cons (e_int (a_cons (e_var rfl (a_nil ⟨[.int 0, .int x], .cons (.cons .nil), rfl, ?_⟩))))))
  refine a_cons (e_tupD (a_cons (e_var rfl (a_cons (e_cb (a_cons (e_int (a_cons (e_op (e_var rfl (e_drawN rfl dk (by omega) (by decide) (by decide) fun y a b c dk y0 y1 => r_I0i (a_nil (c_min2 (a_nil ⟨_, .cons (.cons .nil), rfl, a_nil ⟨_, .cons (.cons (.cons (.cons (.cons .nil)))), rfl, ?_⟩⟩))))))))))))))
  refine e_drawN rfl dk (by omega) (by decide) (by decide) fun v a b c dk v0 v1 => r_ixL_any v0 v1 fun d hd => ?_
  simp only [List.mem_cons, List.not_mem_nil, or_false] at hd
  rcases hd with rfl | rfl | rfl | rfl | rfl
  · exact h (0, 9) a b c dk ⟨by decide, by decide, by decide⟩
  · exact h (0, 9) a b c dk ⟨by decide, by decide, by decide⟩
  · exact h (x, 9) a b c dk ⟨by show 0 ≤ x; omega, by show x ≤ 9; omega, by show (9 : Int) ≤ 9; decide⟩
  · exact h (0, x) a b c dk ⟨by show (0 : Int) ≤ 0; decide, by show 0 ≤ x; omega, by show x ≤ 9; omega⟩
  · refine h (x, _) a b c dk ⟨by show 0 ≤ x; omega, ?_, ?_⟩
    · show x ≤ if x + y < 9 then x + y else 9
      split <;> omega
    · show (if x + y < 9 then x + y else 9) ≤ 9
      split <;> omega
abbrev spRows : ASp := fun as Ω P => ∃ (Ω0 : AH) (p : Addr) (us ws : List Str) (k m : Int) (a b c : Int) (n : Nat), as = [.ptr p, .dat (.list (us.map PyData.str)), .dat (.int k), .dat (.int m)] ∧ Ω = put Ω0 p (deckL a b c) ∧ DkOk n b c ∧ n ≤ 4500 ∧ 1 ≤ us.length ∧ us.length ≤ 100 ∧ (∀ u ∈ us, u ∈ ws) ∧ 0 ≤ k ∧ k ≤ 6 ∧ 1 ≤ m ∧ m ≤ 3 ∧
  ∀ rs a' b' c', DkOk (n + 100) b' c' → RsOk ws rs → P (.dat (rules rs)) (put Ω0 p (deckL a' b' c'))
theorem ok_rows (T : Top K mg) : FnOk P w K mg base CX0 3 T.f__law_rows T.d__law_rows ["_law_source_here", "_law_deeds", "_law_many", "_law_moods"] (spA K spRows) := by
  have G__law_draw : FnOk P w K mg base CX0 1 T.f__law_draw T.d__law_draw ["_law_source_here", "_law_bound"] (spA K spDraw) := ok_draw T
  have G__law_span : FnOk P w K mg base CX0 2 T.f__law_span T.d__law_span ["_law_source_here"] (spA K spSpan) := ok_span T
  refine fnA_ok T.D__law_rows.F sc__law_rows (fun as Ω P ⟨Ω0, p, us, ws, k, m, a, b, c, n, e, _⟩ => by subst e; rfl) (fun cdv A outer s H E hr => ?_)
  refine ⟨_, (pss_cons (ps_set (i := 4) sc__law_rows.nd rfl (.inl rfl) (pe_lst pa_nil))
    (pss_cons (ps_for PassesOwn.never rfl (pi_range1 rfl T.b_range (pa_cons (pe_call G__law_draw (hr.mono (by omega)) rfl T.D__law_draw.g T.D__law_draw.F.kp T.D__law_draw.b .nil pass0 (pa_cons (pv 0) (pa_cons (pe_op op_add (pv 2) pe_int) pa_nil))) pa_nil)) (pg_name (i := 5) sc__law_rows.nd rfl (.inl rfl))
      (pss_cons (ps_set (i := 6) sc__law_rows.nd rfl (.inl rfl) (Dat.pe_tupleK (K := K) rfl rfl T.b_tuple (pe_lc (own := [("_law_place", 7)]) (g := (gName 7)) (tt := tYes) rfl sc__law_rows.nd (pi_range1 rfl T.b_range (pa_cons pe_int pa_nil)) (blkOk_by (N := N__law_rows) (sc := defScope s__law_rows) (by decide +kernel)) (fun _ _ _ _ _ => (pg_name (i := 7) sc__law_rows.nd rfl (Or.inl rfl))) (fun _ _ _ _ _ => pts_nil) (fun _ _ _ _ _ => (pe_call G__law_span (hr.mono (by omega)) rfl T.D__law_span.g T.D__law_span.F.kp T.D__law_span.b .nil pass0 (pa_cons (pv 0) pa_nil))))))
      (pss_cons (ps_set (i := 8) sc__law_rows.nd rfl (.inl rfl) (pe_ix (Dat.ixL (K := K) rfl) (pv 1) (pe_call G__law_draw (hr.mono (by omega)) rfl T.D__law_draw.g T.D__law_draw.F.kp T.D__law_draw.b .nil pass0 (pa_cons (pv 0) (pa_cons (pe_callB (Dat.lenQ (K := K) rfl) rfl T.b_len bt_len (pa_cons (pv 1) pa_nil)) pa_nil))) (fun _ _ => rfl)))
      (pss_one (ps_expr (Dat.appQ (K := K) rfl (pv 4) (pa_cons (pe_op (Dat.catT (K := K) rfl) (pe_op (Dat.catT (K := K) rfl) (pe_tup (pa_cons (pe_call G__law_draw (hr.mono (by omega)) rfl T.D__law_draw.g T.D__law_draw.F.kp T.D__law_draw.b .nil pass0 (pa_cons (pv 0) (pa_cons (pv 3) pa_nil))) pa_nil)) (pv 6)) (pe_tup (pa_cons (pv 8) (pa_cons (pe_call G__law_draw (hr.mono (by omega)) rfl T.D__law_draw.g T.D__law_draw.F.kp T.D__law_draw.b .nil pass0 (pa_cons (pv 0) (pa_cons (pv 3) pa_nil))) pa_nil)))) pa_nil)))))))
    (pss_one (ps_ret (Dat.pe_tupleK (K := K) rfl rfl T.b_tuple (pv 4)))))), ?_⟩
  rintro as Ω P ⟨Ω0, p, us, ws, k, m, a, b, c, n, rfl, rfl, dk, hn, u1, u2, hu, k0, k6, m1, m3, h⟩
  refine s_seq (s_asg (e_lstP (a_nil ⟨by simp, fun f nf => ?_⟩)))
  have ne : f ≠ p := fun e => by rw [e, put_same] at nf; cases nf
  rw [put_ne ne] at nf
  rw [Dat.put_comm ne.symm]
  refine s_seqM (fun Γ' Ω' => ∃ (rs : List Rw) (x y z u : Option Av) (a b c : Int), RsOk ws rs ∧ DkOk (n + 100) b c ∧ Γ' = [some (.ptr p), some (.dat (.list (us.map PyData.str))), some (.dat (.int k)), some (.dat (.int m)), some (.ptr f), x, y, z, u] ∧ Ω' = put (put Ω0 f ((rs.map Rw.enc).map .dat)) p (deckL a b c)) ?_ ?_
  · refine s_for (fun as i Γ' Ω' => as.length ≤ 6 ∧ ∃ (rs : List Rw) (x y z u : Option Av) (a b c : Int), rs.length = i ∧ (∀ r ∈ rs, r.Ok ws) ∧ DkOk (n + 1 + i * 15) b c ∧ Γ' = [some (.ptr p), some (.dat (.list (us.map PyData.str))), some (.dat (.int k)), some (.dat (.int m)), some (.ptr f), x, y, z, u] ∧ Ω' = put (put Ω0 f ((rs.map Rw.enc).map .dat)) p (deckL a b c)) ?_
    refine i_rng1 (a_cons (e_draw rfl (e_op (e_var rfl (e_int (r_I0i ⟨_, a, b, c, n, rfl, rfl, dk, by omega, by omega, by omega, fun t a b c dk t0 t1 => a_nil ⟨t, rfl, ⟨by omega, by omega⟩, ⟨⟨?_, [], none, none, none, none, a, b, c, rfl, nofun, dk.mono (by omega), rfl, rfl⟩, ?_, ?_⟩⟩⟩))))))
    · unfold rngA
      rw [List.length_map, List.length_range]
      omega
    · rintro i it Γ' Ω' hit ⟨hl, rs, x, y, z, u, a, b, c, hd', hrs, dk, rfl, rfl⟩
      have hi := (List.getElem?_eq_some_iff.mp hit).1
      refine g_name ?_
      refine s_seqM (fun Γ' Ω' => ∃ (ps : List (Int × Int)) (a b c : Int), ps.length = 4 ∧ (∀ q ∈ ps, sOk q) ∧ DkOk (n + 1 + i * 15 + 12) b c ∧ Γ' = [some (.ptr p), some (.dat (.list (us.map PyData.str))), some (.dat (.int k)), some (.dat (.int m)), some (.ptr f), some it, some (.dat (.tuple (ps.map fun q => rng q.1 q.2))), z, u] ∧ Ω' = put (put Ω0 f ((rs.map Rw.enc).map .dat)) p (deckL a b c)) ?_ ?_
      · refine s_asg (e_then ?_)
        refine e_lc (gn_name (by decide)) (fun D as j acc Ω' => (put Ω0 f ((rs.map Rw.enc).map .dat)) D = none ∧ D ≠ p ∧ ∃ (ps : List (Int × Int)) (a b c : Int), as = rngA 0 4 ∧ acc = (ps.map fun q => rng q.1 q.2).map .dat ∧ ps.length = j ∧ (∀ q ∈ ps, sOk q) ∧ DkOk (n + 1 + i * 15 + j * 3) b c ∧ Ω' = put (put (put Ω0 f ((rs.map Rw.enc).map .dat)) D acc) p (deckL a b c)) ?_
        refine i_rng1 (a_cons (e_int (a_nil ⟨4, rfl, ⟨by decide, by decide⟩, by decide, fun D nD => ⟨?_, fun j x acc Ω' ex hM => ?_, fun acc Ω' hM => ?_⟩⟩)))
        · have ne : D ≠ p := fun e => by rw [e, put_same] at nD; cases nD
          rw [put_ne ne] at nD
          exact ⟨nD, ne, [], a, b, c, rfl, rfl, rfl, nofun, dk.mono (by omega), Dat.put_comm ne.symm⟩
        · obtain ⟨nD, ne, ps, a, b, c, _, rfl, hl', hb, dk, rfl⟩ := hM
          have hj : j < 4 := (List.getElem?_eq_some_iff.mp ex).1
          refine ⟨by rw [put_ne ne, put_same], by rw [List.length_map, List.length_map]; omega, g_name (t_yes ⟨fun _ => ?_, nofun⟩)⟩
          refine e_call (a_cons (e_var rfl (a_nil ⟨_, p, a, b, c, _, rfl, rfl, dk, by omega, fun q a b c dk hq => ⟨by rw [put_ne ne, put_same], nD, ne, ps ++ [q], a, b, c, rfl, by simp, by simp [hl'], fun v hv => ?_, dk.mono (by omega), ?_⟩⟩)))
          · rcases List.mem_append.mp hv with hv | hv
            · exact hb v hv
            · rw [List.mem_singleton.mp hv]
              exact hq
          · rw [Dat.put_comm ne.symm, put_put]
        · obtain ⟨nD, ne, ps, a, b, c, _, rfl, hl', hb, dk, rfl⟩ := hM
          refine r_tupP (by rw [put_ne ne, put_same]) ⟨ps, a, b, c, hl', hb, dk, rfl, ?_⟩
          rw [Dat.put_comm ne, del_put (by rw [put_ne ne]; exact nD)]
      rintro Γ' Ω' ⟨ps, a, b, c, lp, hps, dk, rfl, rfl⟩
      refine s_seq (s_asg (e_op (e_var rfl (e_draw rfl (e_cb (a_cons (e_var rfl (a_nil (c_lenL ⟨_, a, b, c, _, rfl, rfl, dk, by omega, by rw [List.length_map]; omega, by rw [List.length_map]; omega, fun v a b c dk v0 v1 => r_ixL_any v0 v1 fun d hd => ?_⟩)))))))))
      obtain ⟨wd, hwd, rfl⟩ := List.mem_map.mp hd
      match ps, lp with
      | [p1, p2, p3, p4], _ =>
        refine s_drop (e_app (e_var rfl ⟨f, rfl, ⟨_, by rw [put_ne ne, put_same]⟩, ?_⟩))
        refine a_cons (e_op (e_op (e_tupD (a_cons (e_draw rfl (e_var rfl ⟨m, a, b, c, _, rfl, rfl, dk, by omega, by omega, by omega, fun u a b c dk u0 u1 => a_nil ⟨_, .cons .nil, rfl, e_var rfl (r_catT (Nat.le_of_ble_eq_true rfl) ?_)⟩⟩))))))
        refine e_tupD (a_cons (e_var rfl (a_cons (e_draw rfl (e_var rfl ⟨m, a, b, c, _, rfl, rfl, dk, by omega, by omega, by omega, fun o a b c dk o0 o1 => a_nil ⟨_, .cons (.cons .nil), rfl, r_catT (Nat.le_of_ble_eq_true rfl) (a_nil ⟨_, _, rfl, by rw [put_ne ne, put_same], by rw [List.length_map, List.length_map]; omega, ?_⟩)⟩⟩)))))
        refine ⟨hl, rs ++ [⟨u, p1, p2, p3, p4, wd, o⟩], _, _, _, _, a, b, c, by rw [List.length_append, hd']; rfl, fun r hr' => ?_, dk.mono (by omega), rfl, ?_⟩
        · rcases List.mem_append.mp hr' with hr' | hr'
          · exact hrs r hr'
          · rw [List.mem_singleton] at hr'
            subst hr'
            exact ⟨u0, by show u ≤ 2; omega, hps p1 (by simp), hps p2 (by simp), hps p3 (by simp), hps p4 (by simp), hu wd hwd, o0, by show o ≤ 2; omega⟩
        · rw [Dat.put_comm ne.symm, put_put, List.map_append, List.map_append]
          rfl
    · rintro Γ' Ω' ⟨hl, rs, x, y, z, u, a, b, c, hd, hrs, dk, rfl, rfl⟩
      exact ⟨rs, x, y, z, u, a, b, c, ⟨by omega, hrs⟩, dk.mono (by omega), rfl, rfl⟩
  rintro Γ' Ω' ⟨rs, x, y, z, u, a, b, c, hrs, dk, rfl, rfl⟩
  refine s_ret (e_then (e_var rfl (r_tupP (by rw [put_ne ne, put_same]) ?_)))
  rw [Dat.put_comm ne, del_put (by rw [put_ne ne]; exact nf)]
  exact h _ _ _ _ dk hrs
end
end K38

set_option Elab.async false
set_option linter.all false
set_option maxRecDepth 100000
set_option maxHeartbeats 1000000
namespace K38
open PySem PySem.Spec PyProof.Rows L2 Dat
local macro_rules | `(tactic| trivial) => `(tactic| (first
  | (with_reducible refine s_seq ?_)
  | (with_reducible refine s_asg ?_)
  | (with_reducible refine s_ret ?_)
  | (with_reducible refine s_drop ?_)
  | (with_reducible refine s_next ?_)
  | (with_reducible refine s_retN ?_)
  | (with_reducible refine s_brk ?_)
  | (with_reducible refine s_cont ?_)
  | (with_reducible refine s_if ?_)
  | (with_reducible refine e_int ?_)
  | (with_reducible refine e_str ?_)
  | (with_reducible refine e_bl ?_)
  | (with_reducible refine e_non ?_)
  | (with_reducible refine e_ty ?_)
  | (with_reducible refine e_tupD ?_)
  | (with_reducible refine e_lstD ?_)
  | (with_reducible refine e_op ?_)
  | (with_reducible refine e_un ?_)
  | (with_reducible refine e_then ?_)
  | (with_reducible refine e_cb ?_)
  | (with_reducible refine e_call ?_)
  | (with_reducible refine e_if ?_)
  | (with_reducible refine e_chain ?_)
  | (with_reducible refine e_andV ?_)
  | (with_reducible refine e_orV ?_)
  | (with_reducible refine e_notV ?_)
  | (with_reducible refine a_cons ?_)
  | (with_reducible refine a_nil ?_)
  | (with_reducible refine t_test ?_)
  | (with_reducible refine t_B ?_)
  | (with_reducible refine t_not ?_)
  | (with_reducible refine t_and ?_)
  | (with_reducible refine t_or ?_)
  | (with_reducible refine r_I0i ?_)
  | (with_reducible refine r_I0b ?_)
  | (with_reducible refine r_neg ?_)
  | (with_reducible refine r_isN ?_)
  | (with_reducible refine r_notN ?_)
  | (with_reducible refine c_lenT ?_)
  | (with_reducible refine c_lenL ?_)
  | (with_reducible refine c_intI ?_)
  | (with_reducible refine c_intB ?_)
  | (with_reducible refine c_max2 ?_)
  | (with_reducible refine c_min2 ?_)
  | (with_reducible refine c_abs ?_)
  | (with_reducible refine r_tupL ?_)
  | (with_reducible refine r_tupT ?_)
  | (with_reducible refine c_allM ?_)
  | ((with_reducible apply e_var); (exact rfl))
  | ((with_reducible refine r_eq ?_ ?_); (exact rfl))
  | ((with_reducible refine r_ne ?_ ?_); (exact rfl))
  | (with_reducible refine c_isi kit_int ?_)
  | (with_reducible refine c_isi kit_bool ?_)
  | (with_reducible refine c_isi kit_tuple ?_)
  | (with_reducible refine c_isi kit_list ?_)
  | (with_reducible refine c_isi kit_str ?_)
  | ((with_reducible apply r_ixT); (exact rfl))
  | ((with_reducible apply dats_pack); (iterate 40 (first | exact Dats.nil | apply Dats.cons | skip)); (exact rfl))
  | (with_reducible refine s_asgG ?_) | (with_reducible refine g_name ?_) | ((with_reducible refine g_tup ?_ ?_); (exact rfl)) | (refine gs_nil ?_) | (refine gs_cons ?_) | (with_reducible refine ⟨rfl, ?_⟩)
  | (refine ⟨_, rfl, ?_⟩) | (refine ⟨_, _, rfl, ?_⟩) | (refine ⟨_, _, _, rfl, ?_⟩) | (with_reducible refine ⟨fun _ => ?_, fun _ => ?_⟩) | fail))
section
variable {P : Program} {w : World} {K : PySem.W.Frag} [Tb K] {mg : Str → Option Value} {base : Heap}
structure PlOk (rs ts : List Rw) : Prop where
  s : RsOk seatWs rs
  t : RsOk tubWs ts
abbrev plan (rs ts : List Rw) : PyData := .tuple [rules rs, rules ts]
theorem PlOk.ruleD {rs ts : List Rw} (h : PlOk rs ts) : K38.ruleD (plan rs ts) = true := by
  show (halfD seatWs (rules rs) && halfD tubWs (rules ts)) = true
  rw [h.s.halfD, h.t.halfD]
  rfl
theorem a_strs {Γ : List (Option Av)} {Ω : AH} : True := trivial
abbrev spRule : ASp := fun as Ω P => ∃ (Ω0 : AH) (p : Addr) (k m a b c : Int) (n : Nat), as = [.ptr p, .dat (.int k), .dat (.int m)] ∧ Ω = put Ω0 p (deckL a b c) ∧ DkOk n b c ∧ n ≤ 4000 ∧ 0 ≤ k ∧ k ≤ 6 ∧ 1 ≤ m ∧ m ≤ 3 ∧
  ∀ rs ts a' b' c', DkOk (n + 200) b' c' → PlOk rs ts → P (.dat (plan rs ts)) (put Ω0 p (deckL a' b' c'))
theorem ok_rule (T : Top K mg) : FnOk P w K mg base CX0 4 T.f__law_rule T.d__law_rule ["_law_source_here", "_law_many", "_law_moods"] (spA K spRule) := by
  have G__law_rows : FnOk P w K mg base CX0 3 T.f__law_rows T.d__law_rows ["_law_source_here", "_law_deeds", "_law_many", "_law_moods"] (spA K spRows) := ok_rows T
  refine fnA_ok T.D__law_rule.F sc__law_rule (fun as Ω P ⟨Ω0, p, k, m, a, b, c, n, e, _⟩ => by subst e; rfl) (fun cdv A outer s H E hr => ?_)
  refine ⟨_, (pss_cons (ps_set (i := 3) sc__law_rule.nd rfl (.inl rfl) (pe_call G__law_rows (hr.mono (by omega)) rfl T.D__law_rows.g T.D__law_rows.F.kp T.D__law_rows.b .nil pass0 (pa_cons (pv 0) (pa_cons (pe_lst (pa_cons pe_str (pa_cons pe_str (pa_cons pe_str (pa_cons pe_str (pa_cons pe_str pa_nil)))))) (pa_cons (pv 1) (pa_cons (pv 2) pa_nil))))))
    (pss_one (ps_ret (pe_tup (pa_cons (pv 3) (pa_cons (pe_call G__law_rows (hr.mono (by omega)) rfl T.D__law_rows.g T.D__law_rows.F.kp T.D__law_rows.b .nil pass0 (pa_cons (pv 0) (pa_cons (pe_lst (pa_cons pe_str (pa_cons pe_str (pa_cons pe_str (pa_cons pe_str pa_nil))))) (pa_cons (pv 1) (pa_cons (pv 2) pa_nil))))) pa_nil)))))), ?_⟩
  rintro as Ω P ⟨Ω0, p, k, m, a, b, c, n, rfl, rfl, dk, hn, k0, k6, m1, m3, h⟩
  refine s_seq (s_asg (e_call (a_cons (e_var rfl (a_cons (e_lstD (a_cons (e_str (a_cons (e_str (a_cons (e_str (a_cons (e_str (a_cons (e_str (a_nil ⟨_, .cons (.cons (.cons (.cons (.cons .nil)))), rfl, a_cons (e_var rfl (a_cons (e_var rfl (a_nil ⟨Ω0, p, ["group", "group", "single", "single", "go"], seatWs, k, m, a, b, c, n, rfl, rfl, dk, by omega, by decide, by decide, by decide, k0, k6, m1, m3, fun rs a b c dk ro => ?_⟩))))⟩)))))))))))))))))
  exact s_ret (e_tupD (a_cons (e_var rfl (a_cons (e_call (a_cons (e_var rfl (a_cons (e_lstD (a_cons (e_str (a_cons (e_str (a_cons (e_str (a_cons (e_str (a_nil ⟨_, .cons (.cons (.cons (.cons .nil))), rfl, a_cons (e_var rfl (a_cons (e_var rfl (a_nil ⟨Ω0, p, ["small", "small", "great", "rest"], tubWs, k, m, a, b, c, _, rfl, rfl, dk, by omega, by decide, by decide, by decide, k0, k6, m1, m3, fun ts a b c dk to => a_nil ⟨_, .cons (.cons .nil), rfl, h rs ts a b c (dk.mono (by omega)) ⟨ro, to⟩⟩⟩))))⟩))))))))))))))))))
structure PairOk (m : Int) (ks : List Int) : Prop where
  l1 : 1 ≤ ks.length
  l2 : ks.length ≤ 2
  b : ∀ k ∈ ks, 1 ≤ k ∧ k ≤ m
  c : choiceD m (itup ks) = true
abbrev spPair : ASp := fun as Ω P => ∃ (Ω0 : AH) (p : Addr) (m a b c : Int) (n : Nat), as = [.ptr p, .dat (.int m)] ∧ Ω = put Ω0 p (deckL a b c) ∧ DkOk n b c ∧ n ≤ 4000 ∧ 1 ≤ m ∧ m ≤ 4 ∧ ∀ ks a' b' c', DkOk (n + 2) b' c' → PairOk m ks → P (.dat (itup ks)) (put Ω0 p (deckL a' b' c'))
theorem ok_pair (T : Top K mg) : FnOk P w K mg base CX0 2 T.f__law_pair T.d__law_pair ["_law_source_here", "_law_most"] (spA K spPair) := by
  have G__law_draw : FnOk P w K mg base CX0 1 T.f__law_draw T.d__law_draw ["_law_source_here", "_law_bound"] (spA K spDraw) := ok_draw T
  refine fnA_ok T.D__law_pair.F sc__law_pair (fun as Ω P ⟨Ω0, p, m, a, b, c, n, e, _⟩ => by subst e; rfl) (fun cdv A outer s H E hr => ?_)
  refine ⟨_, (pss_cons (ps_par (i := 2) (j := 3) rfl sc__law_pair.nd rfl rfl (by decide) rfl rfl (pa_cons (pe_op op_add pe_int (pe_call G__law_draw (hr.mono (by omega)) rfl T.D__law_draw.g T.D__law_draw.F.kp T.D__law_draw.b .nil pass0 (pa_cons (pv 0) (pa_cons (pv 1) pa_nil)))) (pa_cons (pe_op op_add pe_int (pe_call G__law_draw (hr.mono (by omega)) rfl T.D__law_draw.g T.D__law_draw.F.kp T.D__law_draw.b .nil pass0 (pa_cons (pv 0) (pa_cons (pv 1) pa_nil)))) pa_nil)) (by rfl))
    (pss_one (ps_ret (pe_ifExp (pt_cmpR op_ne (pv 2) (pv 3) (nomark _)) (pe_tup (pa_cons (pe_callB (Dat.cl_min2 rfl) rfl T.b_min bt_min (pa_cons (pv 2) (pa_cons (pv 3) pa_nil))) (pa_cons (pe_callB (Dat.cl_max2 rfl) rfl T.b_max bt_max (pa_cons (pv 2) (pa_cons (pv 3) pa_nil))) pa_nil))) (pe_tup (pa_cons (pv 2) pa_nil)))))), ?_⟩
  rintro as Ω P ⟨Ω0, p, m, a, b, c, n, rfl, rfl, dk, hn, m1, m4, h⟩
  refine s_seq (s_par (a_cons (e_op (e_int (e_draw rfl (e_var rfl ⟨m, a, b, c, n, rfl, rfl, dk, by omega, by omega, by omega, fun x a b c dk x0 x1 => r_I0i (a_cons (e_op (e_int (e_draw rfl (e_var rfl ⟨m, a, b, c, _, rfl, rfl, dk, by omega, by omega, by omega, fun y a b c dk y0 y1 => r_I0i (a_nil ⟨_, _, rfl, ?_⟩)⟩)))))⟩))))))
  refine s_ret (e_if (t_test (e_op (e_var rfl (e_var rfl (r_ne rfl ⟨_, rfl, (fun z => ?_), (fun z => ?_)⟩))))))
  · have z' : 1 + x ≠ 1 + y := by simpa [eqD] using z
    refine e_tupD (a_cons (e_cb (a_cons (e_var rfl (a_cons (e_var rfl (a_nil (c_min2 (a_cons (e_cb (a_cons (e_var rfl (a_cons (e_var rfl (a_nil (c_max2 (a_nil ⟨_, .cons (.cons .nil), rfl, h [_, _] a b c (dk.mono (by omega)) ?_⟩)))))))))))))))))
    obtain ⟨lo, hlo⟩ : ∃ lo, lo = (if 1 + y < 1 + x then 1 + y else 1 + x) := ⟨_, rfl⟩
    obtain ⟨hi, hhi⟩ : ∃ hi, hi = (if 1 + y > 1 + x then 1 + y else 1 + x) := ⟨_, rfl⟩
    rw [← hlo, ← hhi]
    have b1 : 1 ≤ lo ∧ lo ≤ m ∧ 1 ≤ hi ∧ hi ≤ m ∧ lo < hi := by
      rw [hlo, hhi]
      split <;> split <;> omega
    refine ⟨by simp, by simp, fun k hk => ?_, ?_⟩
    · simp only [List.mem_cons, List.not_mem_nil, or_false] at hk
      rcases hk with rfl | rfl <;> omega
    · simp [choiceD, inD_of b1.1 b1.2.1, inD_of b1.2.2.1 b1.2.2.2.1, lt2, b1.2.2.2.2]
  · refine e_tupD (a_cons (e_var rfl (a_nil ⟨_, .cons .nil, rfl, h [1 + x] a b c (dk.mono (by omega)) ⟨Nat.le_refl _, by show 1 ≤ 2; decide, fun k hk => ?_, ?_⟩⟩)))
    · rw [List.mem_singleton.mp hk]
      omega
    · simp [choiceD, inD_of (show (1 : Int) ≤ 1 + x by omega) (show 1 + x ≤ m by omega)]
theorem all4 {ds : List PyData} (h : ∃ ns : List Int, ds = ns.map PyData.int ∧ ns.length = 4 ∧ ∀ n ∈ ns, 0 ≤ n ∧ n ≤ 5) : pricesD (.tuple ds) = true := by
  obtain ⟨ns, rfl, l, hb⟩ := h
  simp only [pricesD, List.length_map, l, List.all_map, Bool.and_eq_true, decide_eq_true_eq, List.all_eq_true]
  exact ⟨trivial, fun n hn => inD_of (hb n hn).1 (hb n hn).2⟩
abbrev spSetup : ASp := fun as Ω P => ∃ (Ω0 : AH) (p : Addr) (a b c : Int) (n : Nat), as = [.ptr p] ∧ Ω = put Ω0 p (deckL a b c) ∧ DkOk n b c ∧ n ≤ 3000 ∧ ∀ (s : Shop) (ns : List Int) a' b' c', DkOk (n + 20) b' c' → s.Ok → s.prices = itup ns → (∀ x ∈ ns, 0 ≤ x ∧ x ≤ 5) → ns.length = 4 → P (.dat s.enc) (put Ω0 p (deckL a' b' c'))
theorem ok_setup (T : Top K mg) : FnOk P w K mg base CX0 3 T.f__law_setup T.d__law_setup ["_law_source_here"] (spA K spSetup) := by
  have G__law_draw : FnOk P w K mg base CX0 1 T.f__law_draw T.d__law_draw ["_law_source_here", "_law_bound"] (spA K spDraw) := ok_draw T
  have G__law_pair : FnOk P w K mg base CX0 2 T.f__law_pair T.d__law_pair ["_law_source_here", "_law_most"] (spA K spPair) := ok_pair T
  refine fnA_ok T.D__law_setup.F sc__law_setup (fun as Ω P ⟨Ω0, p, a, b, c, n, e, _⟩ => by subst e; rfl) (fun cdv A outer s H E hr => ?_)
  refine ⟨_, (pss_cons (ps_set (i := 1) sc__law_setup.nd rfl (.inl rfl) (pe_op op_add pe_int (pe_call G__law_draw (hr.mono (by omega)) rfl T.D__law_draw.g T.D__law_draw.F.kp T.D__law_draw.b .nil pass0 (pa_cons (pv 0) (pa_cons pe_int pa_nil)))))
    (pss_cons (ps_set (i := 2) sc__law_setup.nd rfl (.inl rfl) (pe_tup (pa_cons (pe_op op_add pe_int (pe_call G__law_draw (hr.mono (by omega)) rfl T.D__law_draw.g T.D__law_draw.F.kp T.D__law_draw.b .nil pass0 (pa_cons (pv 0) (pa_cons pe_int pa_nil)))) (pa_cons (pe_call G__law_draw (hr.mono (by omega)) rfl T.D__law_draw.g T.D__law_draw.F.kp T.D__law_draw.b .nil pass0 (pa_cons (pv 0) (pa_cons pe_int pa_nil))) pa_nil))))
    (pss_cons (ps_set (i := 3) sc__law_setup.nd rfl (.inl rfl) (pe_tup (pa_cons (pe_ix (Dat.ixL (K := K) rfl) (pe_lst (pa_cons pe_int (pa_cons pe_int (pa_cons pe_int (pa_cons pe_int pa_nil))))) (pe_call G__law_draw (hr.mono (by omega)) rfl T.D__law_draw.g T.D__law_draw.F.kp T.D__law_draw.b .nil pass0 (pa_cons (pv 0) (pa_cons pe_int pa_nil))) (fun _ _ => rfl)) (pa_cons (pe_call G__law_draw (hr.mono (by omega)) rfl T.D__law_draw.g T.D__law_draw.F.kp T.D__law_draw.b .nil pass0 (pa_cons (pv 0) (pa_cons pe_int pa_nil))) pa_nil))))
    (pss_cons (ps_set (i := 4) sc__law_setup.nd rfl (.inl rfl) (Dat.pe_tupleK (K := K) rfl rfl T.b_tuple (pe_lc (own := [("_law_place", 5)]) (g := (gName 5)) (tt := tYes) rfl sc__law_setup.nd (pi_range1 rfl T.b_range (pa_cons pe_int pa_nil)) (blkOk_by (N := N__law_setup) (sc := defScope s__law_setup) (by decide +kernel)) (fun _ _ _ _ _ => (pg_name (i := 5) sc__law_setup.nd rfl (Or.inl rfl))) (fun _ _ _ _ _ => pts_nil) (fun _ _ _ _ _ => (pe_call G__law_draw (hr.mono (by omega)) rfl T.D__law_draw.g T.D__law_draw.F.kp T.D__law_draw.b .nil pass0 (pa_cons (pv 0) (pa_cons pe_int pa_nil)))))))
    (pss_one (ps_ret (pe_tup (pa_cons (pv 1) (pa_cons (pe_call G__law_pair (hr.mono (by omega)) rfl T.D__law_pair.g T.D__law_pair.F.kp T.D__law_pair.b .nil pass0 (pa_cons (pv 0) (pa_cons (pv 1) pa_nil))) (pa_cons (pv 2) (pa_cons (pv 3) (pa_cons (pe_call G__law_pair (hr.mono (by omega)) rfl T.D__law_pair.g T.D__law_pair.F.kp T.D__law_pair.b .nil pass0 (pa_cons (pv 0) (pa_cons pe_int pa_nil))) (pa_cons (pe_op op_add pe_int (pe_call G__law_draw (hr.mono (by omega)) rfl T.D__law_draw.g T.D__law_draw.F.kp T.D__law_draw.b .nil pass0 (pa_cons (pv 0) (pa_cons pe_int pa_nil)))) (pa_cons (pv 4) pa_nil)))))))))))))), ?_⟩
  rintro as Ω P ⟨Ω0, p, a, b, c, n, rfl, rfl, dk, hn, h⟩
  refine s_seq (s_asg (e_op (e_int (e_drawN rfl dk (by omega) (by decide) (by decide) fun sn a b c dk s0 s1 => r_I0i ?_))))
  refine s_seq (s_asg (e_tupD (a_cons (e_op (e_int (e_drawN rfl dk (by omega) (by decide) (by decide) fun r1 a b c dk i0 i1 => r_I0i (a_cons (e_drawN rfl dk (by omega) (by decide) (by decide) fun r2 a b c dk i2 i3 => a_nil ⟨_, .cons (.cons .nil), rfl, ?_⟩))))))))
  refine s_seq (s_asg (e_tupD (a_cons (e_op (e_lits [0, 1, 1, 1] (e_drawN rfl dk (by omega) (by decide) (by decide) fun v a b c dk v0 v1 => r_ixL_ints 0 1 rfl (by decide) v0 v1 fun c1 j0 j1 => a_cons (e_drawN rfl dk (by omega) (by decide) (by decide) fun c2 a b c dk j2 j3 => a_nil ⟨_, .cons (.cons .nil), rfl, ?_⟩)))))))
  refine s_seqM (fun Γ' Ω' => ∃ (ns : List Int) (a b c : Int), ns.length = 4 ∧ (∀ x ∈ ns, 0 ≤ x ∧ x ≤ 5) ∧ DkOk (n + 9) b c ∧ Γ' = [some (.ptr p), some (.dat (.int (1 + sn))), some (.dat (.tuple [.int (1 + r1), .int r2])), some (.dat (.tuple [.int c1, .int c2])), some (.dat (itup ns)), none] ∧ Ω' = put Ω0 p (deckL a b c)) ?_ ?_
  · refine s_asg (e_then ?_)
    refine e_lc (gn_name (by decide)) (fun D as i acc Ω' => Ω0 D = none ∧ D ≠ p ∧ ∃ (ns : List Int) (a b c : Int), as = rngA 0 4 ∧ acc = (ns.map PyData.int).map .dat ∧ ns.length = i ∧ (∀ n ∈ ns, 0 ≤ n ∧ n ≤ 5) ∧ DkOk (n + 5 + i) b c ∧ Ω' = put (put Ω0 D acc) p (deckL a b c)) ?_
    refine i_rng1 (a_cons (e_int (a_nil ⟨4, rfl, ⟨by decide, by decide⟩, by decide, fun D nD => ⟨?_, fun i x acc Ω' ex hM => ?_, fun acc Ω' hM => ?_⟩⟩)))
    · have ne : D ≠ p := fun e => by rw [e, put_same] at nD; cases nD
      rw [put_ne ne] at nD
      exact ⟨nD, ne, [], a, b, c, rfl, rfl, rfl, nofun, dk.mono (by omega), Dat.put_comm ne.symm⟩
    · obtain ⟨nD, ne, ns, a, b, c, _, rfl, hl, hb, dk, rfl⟩ := hM
      have hi : i < 4 := (List.getElem?_eq_some_iff.mp ex).1
      refine ⟨by rw [put_ne ne, put_same], by rw [List.length_map, List.length_map]; omega, g_name (t_yes ⟨fun _ => ?_, nofun⟩)⟩
      refine e_drawN rfl dk (by omega) (by decide) (by decide) fun v a b c dk v0 v1 => ⟨by rw [put_ne ne, put_same], nD, ne, ns ++ [v], a, b, c, rfl, by simp, by simp [hl], fun k hk => ?_, dk.mono (by omega), ?_⟩
      · rcases List.mem_append.mp hk with hk | hk
        · exact hb k hk
        · rw [List.mem_singleton] at hk
          omega
      · rw [Dat.put_comm ne.symm, put_put]
    · obtain ⟨nD, ne, ns, a, b, c, _, rfl, hl, hb, dk, rfl⟩ := hM
      refine r_tupP (by rw [put_ne ne, put_same]) ⟨ns, a, b, c, hl, hb, dk, rfl, ?_⟩
      rw [Dat.put_comm ne, del_put (by rw [put_ne ne]; exact nD)]
  rintro Γ' Ω' ⟨ns, a, b, c, nl, nb, dk, rfl, rfl⟩
  refine s_ret (e_tupD (a_cons (e_var rfl (a_cons (e_call (a_cons (e_var rfl (a_cons (e_var rfl (a_nil ⟨Ω0, p, _, a, b, c, _, rfl, rfl, dk, by omega, by omega, by omega, fun zs a b c dk zo => ?_⟩))))))))))
  refine a_cons (e_var rfl (a_cons (e_var rfl (a_cons (e_call (a_cons (e_var rfl (a_cons (e_int (a_nil ⟨Ω0, p, _, a, b, c, _, rfl, rfl, dk, by omega, by decide, by decide, fun ks a b c dk ko => ?_⟩))))))))))
  refine a_cons (e_op (e_int (e_drawN rfl dk (by omega) (by decide) (by decide) fun lf a b c dk l0 l1 => r_I0i (a_cons (e_var rfl (a_nil ⟨_, .cons (.cons (.cons (.cons (.cons (.cons (.cons .nil)))))), rfl, ?_⟩))))))
  refine h ⟨1 + sn, zs, 1 + r1, r2, c1, c2, ks, 1 + lf, itup ns⟩ ns a b c (dk.mono (by omega)) ⟨by show 1 ≤ 1 + sn; omega, by show 1 + sn ≤ 4; omega, zo.l1, zo.l2, zo.b, by show 1 ≤ 1 + r1; omega, by show 1 + r1 ≤ 2; omega, i2, by show r2 ≤ 2; omega, j0, j1, j2, by show c2 ≤ 2; omega, ko.l1, ko.l2, ko.b, by show 1 ≤ 1 + lf; omega, by show 1 + lf ≤ 3; omega, ?_⟩ rfl nb nl
  have hp : pricesD (itup ns) = true := all4 ⟨ns, rfl, nl, nb⟩
  have q1 := zo.c
  have q2 := ko.c
  simp [setupD, inD_of (show (1 : Int) ≤ 1 + sn by omega) (show 1 + sn ≤ 4 by omega), intOf, q1, pairD, fstD, sndD, inD_of (show (1 : Int) ≤ 1 + r1 by omega) (show 1 + r1 ≤ 2 by omega), inD_of i2 (show r2 ≤ 2 by omega), inD_of j0 j1, inD_of j2 (show c2 ≤ 2 by omega), q2, hp, inD_of (show (1 : Int) ≤ 1 + lf by omega) (show 1 + lf ≤ 3 by omega)]
/-! ### all comers -/
abbrev spEvery : ASp := fun as Ω P => ∃ (s : Shop), as = [.dat s.enc] ∧ s.Ok ∧ ∀ cs : List Com, (∀ c ∈ cs, c.Ok s) → 1 ≤ cs.length → cs.length ≤ 100 → P (.dat (.list (cs.map Com.enc))) Ω
theorem ok_every (T : Top K mg) : FnOk P w K mg base CX0 1 T.f__law_comers T.d__law_comers ["_law_shop"] (spA K spEvery) := by
  refine fnA_ok T.D__law_comers.F sc__law_comers (fun as Ω P ⟨s, e, _⟩ => by subst e; rfl) (fun cdv A outer s H E hr => ?_)
  refine ⟨_, (pss_cons (ps_set (i := 1) sc__law_comers.nd rfl (.inl rfl) (pe_lst pa_nil))
    (pss_cons (ps_for PassesOwn.never rfl (Dat.piL (K := K) rfl (pe_op op_cat (pe_lst (pa_cons (pe_tup pa_nil) pa_nil)) (pe_op op_rep (pe_lc (own := [("_law_size", 3)]) (g := (gName 3)) (tt := tYes) rfl sc__law_comers.nd (Dat.piT (K := K) rfl (pe_ix (Dat.ixT (K := K) rfl) (pv 0) pe_int (fun _ _ => rfl))) (blkOk_by (N := N__law_comers) (sc := defScope s__law_comers) (by decide +kernel)) (fun _ _ _ _ _ => (pg_name (i := 3) sc__law_comers.nd rfl (Or.inl rfl))) (fun _ _ _ _ _ => pts_nil) (fun _ _ _ _ _ => (pe_tup (pa_cons (pv 3) pa_nil)))) (pe_ix (Dat.ixT (K := K) rfl) (pe_ix (Dat.ixT (K := K) rfl) (pv 0) pe_int (fun _ _ => rfl)) pe_int (fun _ _ => rfl))))) (pg_name (i := 2) sc__law_comers.nd rfl (.inr rfl))
      (pss_one (ps_set (i := 1) sc__law_comers.nd rfl (.inl rfl) (pe_op op_cat (pv 1) (pe_lc (own := [("_law_singles", 4)]) (g := (gName 4)) (tt := tYes) rfl sc__law_comers.nd (pi_range1 rfl T.b_range (pa_cons (pe_op op_add (pe_ix (Dat.ixT (K := K) rfl) (pe_ix (Dat.ixT (K := K) rfl) (pv 0) pe_int (fun _ _ => rfl)) pe_int (fun _ _ => rfl)) pe_int) pa_nil)) (blkOk_by (N := N__law_comers) (sc := defScope s__law_comers) (by decide +kernel)) (fun _ _ _ _ _ => (pg_name (i := 4) sc__law_comers.nd rfl (Or.inl rfl))) (fun _ _ _ _ _ => pts_nil) (fun _ _ _ _ _ => (pe_tup (pa_cons (pv 2) (pa_cons (pv 4) pa_nil)))))))))
    (pss_one (ps_ret (pv 1))))), ?_⟩
  rintro as Ω P ⟨s, rfl, so, h⟩
  have c10 := so.c10
  have c11 := so.c11
  have c20 := so.c20
  have c22 := so.c22
  have z2 := so.z2
  refine s_seq (s_asg (e_lstD (a_nil ⟨[], .nil, rfl, ?_⟩)))
  refine s_seqM (fun Γ' Ω' => Ω = Ω' ∧ ∃ (cs : List Com) (x y z : Option Av), (∀ c ∈ cs, c.Ok s) ∧ 1 ≤ cs.length ∧ cs.length ≤ 100 ∧ Γ' = [some (.dat s.enc), some (.dat (.list (cs.map Com.enc))), x, y, z]) ?_ ?_
  · refine s_for (fun as i Γ' Ω' => Ω = Ω' ∧ 1 ≤ as.length ∧ as.length ≤ 5 ∧ (∀ a ∈ as, ∃ gs : List Int, a = .dat (itup gs) ∧ (gs.length : Int) ≤ s.c1 ∧ ∀ x ∈ gs, x ∈ s.sizes) ∧ ∃ (cs : List Com) (x y z : Option Av), (∀ c ∈ cs, c.Ok s) ∧ i ≤ cs.length ∧ cs.length ≤ 3 * i ∧ Γ' = [some (.dat s.enc), some (.dat (.list (cs.map Com.enc))), x, y, z]) ?_
    refine i_list (e_op (e_lstD (a_cons (e_tupD (a_nil ⟨[], .nil, rfl, a_nil ⟨_, .cons .nil, rfl, e_op (e_lcM s.sizes (fun z => .dat (.int z)) (fun z => itup [z]) (gn_name (by decide)) (by omega) ?_)⟩⟩)))))
    refine i_tup (e_op (e_var rfl (e_int (r_ixT rfl ⟨_, rfl, (by rw [List.map_map]; rfl), fun z Ω' hz _ => g_name ⟨rfl, e_tupD (a_cons (e_var rfl (a_nil ⟨_, .cons .nil, rfl, rfl, rfl⟩)))⟩, ?_⟩))))
    refine e_op (e_op (e_var rfl (e_int (r_ixT rfl (e_int (r_ixT rfl (r_repL c10 (by omega) (by rw [List.length_map]; omega) ?_)))))))
    have hlen : (List.replicate s.c1.toNat (s.sizes.map fun z => itup [z])).flatten.length ≤ 2 := by
      rcases (show s.c1 = 0 ∨ s.c1 = 1 by omega) with e | e
      · rw [e]
        simp
      · rw [e]
        simp
        omega
    refine r_catL (by show 1 + _ ≤ _; omega) ⟨_, rfl, ⟨rfl, by simp, by rw [List.length_map, List.length_append]; show 1 + _ ≤ _; omega, fun a ha => ?_, [], none, none, none, nofun, Nat.le_refl _, Nat.le_refl _, rfl⟩, ?_, ?_⟩
    · obtain ⟨d, hd, rfl⟩ := List.mem_map.mp ha
      rcases List.mem_append.mp hd with hd | hd
      · rw [List.mem_singleton.mp hd]
        exact ⟨[], rfl, c10, nofun⟩
      · obtain ⟨l, hl, hd⟩ := List.mem_flatten.mp hd
        have hc : s.c1 = 1 := by
          rcases (show s.c1 = 0 ∨ s.c1 = 1 by omega) with e | e
          · rw [e] at hl
            cases hl
          · exact e
        rw [(List.mem_replicate.mp hl).2] at hd
        obtain ⟨z, hz, rfl⟩ := List.mem_map.mp hd
        exact ⟨[z], rfl, by rw [hc]; exact Int.le_refl _, fun x hx => by rw [List.mem_singleton.mp hx]; exact hz⟩
    · rintro i it Γ' Ω' hit ⟨rfl, l1, l5, hall, cs, x, y, z, co, ci, ci3, rfl⟩
      have hi := (List.getElem?_eq_some_iff.mp hit).1
      obtain ⟨gs, rfl, hg, hz⟩ := hall it (List.mem_of_getElem? hit)
      refine g_name (s_asg (e_op (e_var rfl (e_lcM (List.range (s.c2 + 1).toNat) (fun k => .dat (.int (0 + (k : Nat)))) (fun k => Com.enc ⟨gs, 0 + (k : Nat)⟩) (gn_name (by decide)) (by rw [List.length_range]; omega) ?_))))
      refine i_rng1 (a_cons (e_op (e_op (e_op (e_var rfl (e_int (r_ixT rfl (e_int (r_ixT rfl (e_int (r_I0i (a_nil ⟨_, rfl, ⟨by omega, by omega⟩, rfl, fun k Ω' hk _ => g_name ⟨rfl, e_tupD (a_cons (e_var rfl (a_cons (e_var rfl (a_nil ⟨_, .cons (.cons .nil), rfl, rfl, rfl⟩)))))⟩, ?_⟩))))))))))))
      refine r_catL (by rw [List.length_map, List.length_map, List.length_range]; omega) ⟨rfl, l1, l5, hall, cs ++ (List.range (s.c2 + 1).toNat).map (fun k => ⟨gs, 0 + ((k : Nat) : Int)⟩), some (.dat (itup gs)), y, z, fun c hc => ?_, ?_, ?_, ?_⟩
      · rcases List.mem_append.mp hc with hc | hc
        · exact co c hc
        · obtain ⟨k, hk, rfl⟩ := List.mem_map.mp hc
          have hk' := List.mem_range.mp hk
          exact ⟨hg, hz, by show (0 : Int) ≤ 0 + k; omega, by show 0 + (k : Int) ≤ s.c2; omega⟩
      · rw [List.length_append, List.length_map, List.length_range]
        omega
      · rw [List.length_append, List.length_map, List.length_range]
        omega
      · rw [show ((cs ++ (List.range (s.c2 + 1).toNat).map (fun k => (⟨gs, 0 + ((k : Nat) : Int)⟩ : Com))).map Com.enc) = cs.map Com.enc ++ (List.range (s.c2 + 1).toNat).map (fun k => Com.enc ⟨gs, 0 + ((k : Nat) : Int)⟩) by rw [List.map_append, List.map_map]; rfl]
        rfl
    · rintro Γ' Ω' ⟨rfl, l1, l5, hall, cs, x, y, z, co, ci, ci3, rfl⟩
      exact ⟨rfl, cs, x, y, z, co, by omega, by omega, rfl⟩
  rintro Γ' Ω' ⟨rfl, cs, x, y, z, co, l1, l2, rfl⟩
  exact s_ret (e_var rfl (h cs co l1 l2))
end
end K38

set_option Elab.async false
set_option linter.all false
set_option maxRecDepth 100000
set_option maxHeartbeats 1000000
namespace K38
open PySem PySem.Spec PyProof.Rows L2 Dat LamX NdefX Clo
local macro_rules | `(tactic| trivial) => `(tactic| (first
  | (with_reducible refine s_seq ?_)
  | (with_reducible refine s_asg ?_)
  | (with_reducible refine s_ret ?_)
  | (with_reducible refine s_drop ?_)
  | (with_reducible refine s_next ?_)
  | (with_reducible refine s_retN ?_)
  | (with_reducible refine s_brk ?_)
  | (with_reducible refine s_cont ?_)
  | (with_reducible refine s_if ?_)
  | (with_reducible refine e_int ?_)
  | (with_reducible refine e_str ?_)
  | (with_reducible refine e_bl ?_)
  | (with_reducible refine e_non ?_)
  | (with_reducible refine e_ty ?_)
  | (with_reducible refine e_tupD ?_)
  | (with_reducible refine e_lstD ?_)
  | (with_reducible refine e_op ?_)
  | (with_reducible refine e_un ?_)
  | (with_reducible refine e_then ?_)
  | (with_reducible refine e_cb ?_)
  | (with_reducible refine e_call ?_)
  | (with_reducible refine e_if ?_)
  | (with_reducible refine e_chain ?_)
  | (with_reducible refine e_andV ?_)
  | (with_reducible refine e_orV ?_)
  | (with_reducible refine e_notV ?_)
  | (with_reducible refine a_cons ?_)
  | (with_reducible refine a_nil ?_)
  | (with_reducible refine t_test ?_)
  | (with_reducible refine t_B ?_)
  | (with_reducible refine t_not ?_)
  | (with_reducible refine t_and ?_)
  | (with_reducible refine t_or ?_)
  | (with_reducible refine r_I0i ?_)
  | (with_reducible refine r_I0b ?_)
  | (with_reducible refine r_neg ?_)
  | (with_reducible refine r_isN ?_)
  | (with_reducible refine r_notN ?_)
  | (with_reducible refine c_lenT ?_)
  | (with_reducible refine c_lenL ?_)
  | (with_reducible refine c_intI ?_)
  | (with_reducible refine c_intB ?_)
  | (with_reducible refine c_max2 ?_)
  | (with_reducible refine c_min2 ?_)
  | (with_reducible refine c_abs ?_)
  | (with_reducible refine r_tupL ?_)
  | (with_reducible refine r_tupT ?_)
  | (with_reducible refine c_allM ?_)
  | ((with_reducible apply e_var); (exact rfl))
  | ((with_reducible refine r_eq ?_ ?_); (exact rfl))
  | ((with_reducible refine r_ne ?_ ?_); (exact rfl))
  | (with_reducible refine c_isi kit_int ?_)
  | (with_reducible refine c_isi kit_bool ?_)
  | (with_reducible refine c_isi kit_tuple ?_)
  | (with_reducible refine c_isi kit_list ?_)
  | (with_reducible refine c_isi kit_str ?_)
  | ((with_reducible apply r_ixT); (exact rfl))
  | ((with_reducible apply dats_pack); (iterate 40 (first | exact Dats.nil | apply Dats.cons | skip)); (exact rfl))
  | (with_reducible refine s_asgG ?_) | (with_reducible refine g_name ?_) | ((with_reducible refine g_tup ?_ ?_); (exact rfl)) | (refine gs_nil ?_) | (refine gs_cons ?_) | (with_reducible refine ⟨rfl, ?_⟩)
  | (refine ⟨_, rfl, ?_⟩) | (refine ⟨_, _, rfl, ?_⟩) | (refine ⟨_, _, _, rfl, ?_⟩) | (with_reducible refine ⟨fun _ => ?_, fun _ => ?_⟩) | fail))
section
variable {P : Program} {w : World} {K : PySem.W.Frag} [Tb K] {mg : Str → Option Value} {base : Heap}
abbrev spCom : ASp := fun as Ω P => ∃ (s : Shop) (c : Com), as = [.dat s.enc, .dat c.enc] ∧ s.Ok ∧ c.Ok s ∧ P (.dat (.bool true)) Ω
theorem flat_itup : ∀ {ns : List Int}, (ns.map PyData.int).all canFlat = true
  | [] => rfl
  | _ :: r => flat_itup (ns := r)
theorem any_int {ns : List Int} {z : Int} (h : z ∈ ns) : ((ns.map PyData.int).any fun e => PyData.eqv e (.int z)) = true :=
  List.any_eq_true.mpr ⟨.int z, List.mem_map.mpr ⟨z, h, rfl⟩, by simp [PyData.eqv]⟩
theorem ok_is_comers (T : Top K mg) : FnOk P w K mg base CX0 3 T.f_is_comers T.d_is_comers ["setup", "thing"] (spA K spCom) := by
  have G_is_whole : FnOk P w K mg base CX0 1 T.f_is_whole T.d_is_whole ["thing"] (spA K (spB isWh)) := ok_is_whole T
  have G_is_whole_in : FnOk P w K mg base CX0 2 T.f_is_whole_in T.d_is_whole_in ["thing", "low", "high"] (spA K spIn) := ok_is_whole_in T
  have G_is_pair : FnOk P w K mg base CX0 1 T.f_is_pair T.d_is_pair ["thing"] (spA K (spB pairD)) := ok_is_pair T
  refine fnA_ok T.D_is_comers.F sc_is_comers (fun as Ω P ⟨s, c, e, _⟩ => by subst e; rfl) (fun cdv A outer s H E hr => ?_)
  refine ⟨_, (pss_cons (ps_if (pt_not (PW.pt (pw_and (pt_val (pe_call G_is_pair (hr.mono (by omega)) rfl T.D_is_pair.g T.D_is_pair.F.kp T.D_is_pair.b .nil pass0 (pa_cons (pv 1) pa_nil))) (pw_and (pt_val (pe_callB (Dat.isiQ (K := K) rfl) rfl T.b_isinstance bt_isinstance (pa_cons (pe_ix (Dat.ixT (K := K) rfl) (pv 1) pe_int (fun _ _ => rfl)) (pa_cons (pe_bltn (v := .ty "tuple") rfl T.b_tuple bt_tuple rfl) pa_nil)))) (pw_and1 (pt_val (pe_call G_is_whole_in (hr.mono (by omega)) rfl T.D_is_whole_in.g T.D_is_whole_in.F.kp T.D_is_whole_in.b .nil pass0 (pa_cons (pe_ix (Dat.ixT (K := K) rfl) (pv 1) pe_int (fun _ _ => rfl)) (pa_cons pe_int (pa_cons (pe_ix (Dat.ixT (K := K) rfl) (pe_ix (Dat.ixT (K := K) rfl) (pv 0) pe_int (fun _ _ => rfl)) pe_int (fun _ _ => rfl)) pa_nil))))))))))
      (pss_one (ps_ret pe_bl))
      pss_nil)
    (pss_one (ps_ret (pe_and (pe_cmpR op_le (pe_callB (Dat.lenQ (K := K) rfl) rfl T.b_len bt_len (pa_cons (pe_ix (Dat.ixT (K := K) rfl) (pv 1) pe_int (fun _ _ => rfl)) pa_nil)) (pe_ix (Dat.ixT (K := K) rfl) (pe_ix (Dat.ixT (K := K) rfl) (pv 0) pe_int (fun _ _ => rfl)) pe_int (fun _ _ => rfl)) (nomark _)) (pe_one (pe_callB (Dat.allQ (K := K) rfl rfl) rfl T.b_all bt_all (pa_cons (pe_lc (own := [("size", 2)]) (g := (gName 2)) (tt := tYes) rfl sc_is_comers.nd (Dat.piT (K := K) rfl (pe_ix (Dat.ixT (K := K) rfl) (pv 1) pe_int (fun _ _ => rfl))) (blkOk_by (N := N_is_comers) (sc := defScope s_is_comers) (by decide +kernel)) (fun _ _ _ _ _ => (pg_name (i := 2) sc_is_comers.nd rfl (Or.inl rfl))) (fun _ _ _ _ _ => pts_nil) (fun _ _ _ _ _ => (pe_and (pe_call G_is_whole (hr.mono (by omega)) rfl T.D_is_whole.g T.D_is_whole.F.kp T.D_is_whole.b .nil pass0 (pa_cons (pv 2) pa_nil)) (pe_one (pe_cmpR (Dat.inQ (K := K) rfl) (pv 2) (pe_ix (Dat.ixT (K := K) rfl) (pv 0) pe_int (fun _ _ => rfl)) rfl))))) pa_nil))))))), ?_⟩
  rintro as Ω P ⟨s, c, rfl, so, co, h⟩
  refine s_seq (s_ifB (b := !(true && (true && true))) (t_notB (t_andB (t_ofB ?_) fun _ => t_andB (t_ofB ?_) fun _ => t_ofB ?_)) (fun z => by cases z) fun _ => s_next ?_)
  · exact e_call (a_cons (e_var rfl (a_nil ⟨_, rfl, rfl, rfl⟩)))
  · repeat' trivial
  · refine e_call (a_cons (e_op (e_var rfl (e_int (r_ixT rfl (a_cons (e_int (a_cons (e_op (e_op (e_var rfl (e_int (r_ixT rfl (e_int (r_ixT rfl (a_nil ⟨_, _, _, rfl, ?_, rfl⟩))))))))))))))))
    rw [inD_of co.k0 co.k1]
  refine s_retB (b := true && true) (e_andB ?_ fun _ => ?_) h
  · refine e_op (e_cb (a_cons (e_op (e_var rfl (e_int (r_ixT rfl (a_nil (c_lenT (e_op (e_op (e_var rfl (e_int (r_ixT rfl (e_int (r_ixT rfl (r_I0b ⟨?_, rfl⟩))))))))))))))))
    have := co.g
    rw [List.length_map, decide_eq_true this]
  · have := co.g
    have := so.c11
    refine e_cb (a_cons (e_lcM (c.gs.map PyData.int) .dat (fun _ => .bool true) (gn_name (by decide)) (by rw [List.length_map]; omega) ?_))
    refine i_tup (e_op (e_var rfl (e_int (r_ixT rfl ⟨_, rfl, rfl, fun x Ω' hx _ => g_name ⟨rfl, ?_⟩, ?_⟩))))
    · obtain ⟨z, hz, rfl⟩ := List.mem_map.mp hx
      refine EW.mono (P := IsB (true && true) Ω') (e_andB ?_ fun _ => ?_) fun a Ω2 ⟨e1, e2⟩ => ⟨e2, e1⟩
      · exact e_call (a_cons (e_var rfl (a_nil ⟨_, rfl, rfl, rfl⟩)))
      · refine e_op (e_var rfl (e_op (e_var rfl (e_int (r_ixT rfl (r_inT rfl flat_itup ⟨?_, rfl⟩))))))
        rw [any_int (co.z z hz)]
        rfl
    · refine a_nil (c_allM ⟨?_, rfl⟩)
      rw [List.all_eq_true.mpr fun _ _ => rfl]
/-! ### the lambda, rows of comers judged -/
def lamParts : List Stmt → Arguments × Expr × Scope
  | .Assign _ (.Call _ [_, .Lambda p b s _, _] _ _) _ :: _ => (p, b, s)
  | _ => (defArgs s_check_row, .Constant .none 0 ⟨0, 0, 0, 0⟩, defScope s_check_row)
abbrev lamP : Arguments := (lamParts (defBody s_check_row)).1
abbrev lamB : Expr := (lamParts (defBody s_check_row)).2.1
abbrev lamS : Scope := (lamParts (defBody s_check_row)).2.2
theorem sc_lam : NScope ["entry", "setup"] ["entry"] ["setup"] lamS := nscope_by (by decide +kernel)
abbrev lamF (q : Str) (cl : List (Str × Addr)) (c' : Addr) : NF := ⟨"<lambda>", q, lamP, [], lamS, cl, c'⟩
abbrev lsp : LSp := fun cs as Ω P => ∃ (s : Shop) (c : Com), cs = [s.enc] ∧ as = [.dat c.enc] ∧ s.Ok ∧ c.Ok s ∧ P (.dat (.bool true)) Ω
theorem lokC (T : Top K mg) (q : Str) (cl : List (Str × Addr)) (f c' : Addr) : LOk P w K mg base CX0 4 f (lamF q cl c') lamB ["entry"] ["setup"] (spL K lsp) := by
  have G_is_comers : FnOk P w K mg base CX0 3 T.f_is_comers T.d_is_comers ["setup", "thing"] (spA K spCom) := ok_is_comers T
  refine lokA_of (N := ["entry", "setup"]) sc_lam (fun pm ctv us hl => match us, hl with | [_], _ => rfl) (fun cs as Ω P ⟨s, c, e1, e, _⟩ => by subst e; rfl) (fun A outer s H E hr => ?_)
  refine ⟨_, (pe_call G_is_comers hr rfl T.D_is_comers.g T.D_is_comers.F.kp T.D_is_comers.b .nil pass0 (pa_cons (pe_var (i := 1) rfl (Or.inr (Or.inr rfl))) (pa_cons (pe_var (i := 0) rfl (Or.inl rfl)) pa_nil))), ?_⟩
  rintro cs as Ω P ⟨s, c, rfl, rfl, so, co, h⟩
  exact e_call (a_cons (e_var rfl (a_cons (e_var rfl (a_nil ⟨s, c, rfl, so, co, h⟩)))))
abbrev spFault (q : Str) (cl : List (Str × Addr)) : CSp := fun f c' cap as Ω P => ∃ (s : Shop) (cs : List Com) (m : Int), cap.map (·.2) = [s.enc] ∧ as = [.dat (.list (cs.map Com.enc)), .fn f [(f, LamO f (lamF q cl c') lamB), (c', CodeO c' q)] cap, .dat (.int m)] ∧ s.Ok ∧ (∀ c ∈ cs, c.Ok s) ∧
  (cs.length : Int) ≤ m ∧ m ≤ 1000 ∧ P (.dat .none) Ω
theorem ok_fault (T : Top K mg) (q : Str) (cl : List (Str × Addr)) (f c' : Addr) : FnC P w K mg base CX0 5 T.f_fault_in T.d_fault_in ["thing", "fits", "most"] cl ["setup"] (spCl K (spFault q cl) f c') := by
  have HL : LOk P w K mg base CX0 4 f (lamF q cl c') lamB ["entry"] ["setup"] (spL K lsp) := lokC T q cl f c'
  refine fncA_of T.D_fault_in.F sc_fault_in (fun cap cdv A outer s H E hr C0 => ?_)
  refine ⟨_, (pss_cons (ps_if (pt_not (pt_val (pe_callB (Dat.isiQ (K := K) rfl) rfl T.b_isinstance bt_isinstance (pa_cons (pv 0) (pa_cons (pe_bltn (v := .ty "list") rfl T.b_list bt_list rfl) pa_nil)))))
      (pss_one (ps_ret (pe_un un_neg pe_int)))
      pss_nil)
    (pss_cons (ps_for PassesOwn.never rfl (Dat.enumQ (K := K) rfl rfl T.b_enumerate (pa_cons (pe_slice (Dat.slL (K := K) rfl) (pv 0) po_none (po_some (pv 2))) pa_nil)) (Dat.pgT (K := K) (n := 2) rfl rfl (pgs_cons (pg_name (i := 3) sc_fault_in.nd rfl (.inl rfl)) (pgs_cons (pg_name (i := 4) sc_fault_in.nd rfl (.inl rfl)) pgs_nil)))
      (pss_one (ps_if (pt_not (pt_val (pe_held (i := 1) HL C0 rfl (hr.mono (by omega)) (Nat.le_refl _) pass0 rfl (.inl rfl) (pa_cons (pv 4) pa_nil))))
        (pss_one (ps_ret (pv 3)))
        pss_nil)))
    (pss_one (ps_ret (pe_ifExp (pt_cmpR op_gt (pe_callB (Dat.lenQ (K := K) rfl) rfl T.b_len bt_len (pa_cons (pv 0) pa_nil)) (pv 2) (nomark _)) (pv 2) pe_non))))), ?_⟩
  rintro as Ω P ⟨s, cs, m, ecap, rfl, so, co, l1, l2, h⟩
  refine s_seq (s_ifB (b := !true) (t_notB (t_ofB ?_)) (fun z => by cases z) fun _ => s_next ?_)
  · repeat' trivial
  refine s_seqM (fun Γ' Ω' => ∃ x y, Γ' = [some (.dat (.list (cs.map Com.enc))), some (.fn f [(f, LamO f (lamF q cl c') lamB), (c', CodeO c' q)] cap), some (.dat (.int m)), x, y] ∧ Ω' = Ω) ?_ ?_
  · refine s_for (fun as i Γ' Ω' => (∀ a ∈ as, ∃ (i : Int) (c : Com), c ∈ cs ∧ a = .dat (.tuple [.int i, c.enc])) ∧ ∃ x y, Γ' = [some (.dat (.list (cs.map Com.enc))), some (.fn f [(f, LamO f (lamF q cl c') lamB), (c', CodeO c' q)] cap), some (.dat (.int m)), x, y] ∧ Ω' = Ω) ?_
    refine i_enumL (a_cons (e_slL (e_var rfl ⟨_, rfl, o_no (o_some (e_var rfl ⟨_, rfl, a_nil ⟨_, rfl, ⟨fun a ha => ?_, _, _, rfl, rfl⟩, ?_, ?_⟩⟩))⟩)))
    · obtain ⟨i, hi⟩ := List.getElem?_of_mem ha
      obtain ⟨d, hd, rfl⟩ := enumA_at hi
      obtain ⟨c, hc, rfl⟩ := List.mem_map.mp (cutD_mem (List.mem_of_getElem? hd))
      exact ⟨_, c, hc, rfl⟩
    · rintro i it Γ' Ω' hit ⟨hall, x, y, rfl, rfl⟩
      obtain ⟨i, c, hc, rfl⟩ := hall it (List.mem_of_getElem? hit)
      refine g_tup rfl (gs_cons (g_name ⟨rfl, gs_cons (g_name ⟨rfl, gs_nil ?_⟩)⟩))
      refine s_ifB (b := !true) (t_notB (t_ofB ?_)) (fun z => by cases z) fun _ => s_next ⟨hall, _, _, rfl, rfl⟩
      refine e_held (F := lamF q cl c') (body := lamB) (sp := lsp) rfl (a_cons (e_var rfl (a_nil ⟨s, c, ecap, rfl, so, co c hc, rfl, rfl⟩)))
    · rintro Γ' Ω' ⟨hall, x, y, rfl, rfl⟩
      exact ⟨x, y, rfl, rfl⟩
  rintro Γ' Ω' ⟨x, y, rfl, rfl⟩
  refine s_ret (e_if (t_test (e_op (e_cb (a_cons (e_var rfl (a_nil (c_lenL (e_var rfl (r_I0b ⟨_, rfl, fun z => ?_, fun _ => e_non h⟩))))))))))
  have := of_decide_eq_true z
  rw [List.length_map] at this
  omega
abbrev cEnv (L f cw : Addr) : Env := envOfC "check_row" (defScope s_check_row) L f (.ref cw)
abbrev lamQ : Str := (cEnv 0 0 0).qual ++ "<lambda>"
abbrev spChkRow : ASp := fun as Ω P => ∃ (s : Shop) (cs : List Com), as = [.dat s.enc, .dat (.list (cs.map Com.enc)), .dat (.int 200)] ∧ s.Ok ∧ (∀ c ∈ cs, c.Ok s) ∧ cs.length ≤ 200 ∧ P (.dat .none) Ω
theorem ok_check_row (T : Top K mg) {Pw : Addr} (TB : TabB base mg T.cw Pw) (hT : Tb.T (K := K) = [(Pw, lamQ)]) : FnOk P w K mg base CX0 6 T.f_check_row T.d_check_row ["setup", "thing", "most"] (spA K spChkRow) := by
  refine fnA_okC T.D_check_row sc_check_row (fun as Ω P ⟨s, cs, e, _⟩ => by subst e; rfl) (fun A outer s H E hr => ?_)
  have fr1 : ∀ y ∈ lamS.names, y.2 = .free → (defScope s_check_row).names.lookup y.1 = some .cell ∨ (defScope s_check_row).names.lookup y.1 = some .free := ndef_free (fr := ["setup"]) (by decide +kernel)
  have fr2 : ∀ y ∈ (["setup"] : List Str), (y, NameKind.free) ∈ lamS.names := ndef_fr (sc := defScope s_check_row) (by decide +kernel)
  refine ⟨_, (pss_cons (ps_set (i := 3) sc_check_row.nd rfl (.inl rfl) (pe_callC (k := 5) (j := 5) (cl := cloFrom (cEnv s.heap.objs.size T.f_check_row T.cw).cells lamS.names []) (fr := ["setup"]) (js := [0])
    (fun f c' => ok_fault T lamQ (cloFrom (cEnv s.heap.objs.size T.f_check_row T.cw).cells lamS.names []) f c')
    (fun f c' ws vs H Q E h => by
      obtain ⟨F0, Ω, as, P, cap, k0, va, _, ⟨s, cs, m, _, e, _⟩, _⟩ := h
      rw [va.length, e]
      rfl) (fun ok => Caps.made ok fr1 fr2 rfl) hr (Nat.le_refl _) rfl T.D_fault_in.g T.D_fault_in.F.kp T.D_fault_in.b pass0
    (pa_cons (pv 1) (pa_cons (pe_lambda (T := Tb.T (K := K)) TB rfl (by rw [hT]; exact List.mem_singleton.mpr rfl) (fun p hp _ => by rw [hT] at hp; rw [List.mem_singleton.mp hp]; rfl) rfl (fun ok y hy e => (fr1 y hy e).elim (fun z => ok.has _ (.inl z)) fun z => ok.has _ (.inr z))) (pa_cons (pv 2) pa_nil)))))
    (pss_one (ps_if (pt_cmpR Dat.op_notNo (pv 3) pe_non (nomark _)) (pss_one ps_dead) pss_nil))), ?_⟩
  rintro as Ω P ⟨s, cs, rfl, so, co, l, h⟩
  refine s_seq (s_asg (e_callL (d := s.enc) (fun _ => rfl) (fun _ => rfl) rfl (e_var rfl (e_var rfl fun f c' sv => ⟨s, cs, 200, rfl, rfl, so, co, by omega, by decide, ?_⟩))))
  exact s_if (t_test (e_op (e_var rfl (e_non (r_notN ⟨_, rfl, (fun z => (by cases z)), (fun _ => s_next h)⟩)))))
end
end K38

set_option Elab.async false
set_option linter.all false
set_option maxRecDepth 100000
set_option maxHeartbeats 1000000
namespace K38
open PySem PySem.Spec PyProof.Rows L2 Dat
local macro_rules | `(tactic| trivial) => `(tactic| (first
  | (with_reducible refine s_seq ?_)
  | (with_reducible refine s_asg ?_)
  | (with_reducible refine s_ret ?_)
  | (with_reducible refine s_drop ?_)
  | (with_reducible refine s_next ?_)
  | (with_reducible refine s_retN ?_)
  | (with_reducible refine s_brk ?_)
  | (with_reducible refine s_cont ?_)
  | (with_reducible refine s_if ?_)
  | (with_reducible refine e_int ?_)
  | (with_reducible refine e_str ?_)
  | (with_reducible refine e_bl ?_)
  | (with_reducible refine e_non ?_)
  | (with_reducible refine e_ty ?_)
  | (with_reducible refine e_tupD ?_)
  | (with_reducible refine e_lstD ?_)
  | (with_reducible refine e_op ?_)
  | (with_reducible refine e_un ?_)
  | (with_reducible refine e_then ?_)
  | (with_reducible refine e_cb ?_)
  | (with_reducible refine e_call ?_)
  | (with_reducible refine e_if ?_)
  | (with_reducible refine e_chain ?_)
  | (with_reducible refine e_andV ?_)
  | (with_reducible refine e_orV ?_)
  | (with_reducible refine e_notV ?_)
  | (with_reducible refine a_cons ?_)
  | (with_reducible refine a_nil ?_)
  | (with_reducible refine t_test ?_)
  | (with_reducible refine t_B ?_)
  | (with_reducible refine t_not ?_)
  | (with_reducible refine t_and ?_)
  | (with_reducible refine t_or ?_)
  | (with_reducible refine r_I0i ?_)
  | (with_reducible refine r_I0b ?_)
  | (with_reducible refine r_neg ?_)
  | (with_reducible refine r_isN ?_)
  | (with_reducible refine r_notN ?_)
  | (with_reducible refine c_lenT ?_)
  | (with_reducible refine c_lenL ?_)
  | (with_reducible refine c_intI ?_)
  | (with_reducible refine c_intB ?_)
  | (with_reducible refine c_max2 ?_)
  | (with_reducible refine c_min2 ?_)
  | (with_reducible refine c_abs ?_)
  | (with_reducible refine r_tupL ?_)
  | (with_reducible refine r_tupT ?_)
  | (with_reducible refine c_allM ?_)
  | ((with_reducible apply e_var); (exact rfl))
  | ((with_reducible refine r_eq ?_ ?_); (exact rfl))
  | ((with_reducible refine r_ne ?_ ?_); (exact rfl))
  | (with_reducible refine c_isi kit_int ?_)
  | (with_reducible refine c_isi kit_bool ?_)
  | (with_reducible refine c_isi kit_tuple ?_)
  | (with_reducible refine c_isi kit_list ?_)
  | (with_reducible refine c_isi kit_str ?_)
  | ((with_reducible apply r_ixT); (exact rfl))
  | ((with_reducible apply dats_pack); (iterate 40 (first | exact Dats.nil | apply Dats.cons | skip)); (exact rfl))
  | (with_reducible refine s_asgG ?_) | (with_reducible refine g_name ?_) | ((with_reducible refine g_tup ?_ ?_); (exact rfl)) | (refine gs_nil ?_) | (refine gs_cons ?_) | (with_reducible refine ⟨rfl, ?_⟩)
  | (refine ⟨_, rfl, ?_⟩) | (refine ⟨_, _, rfl, ?_⟩) | (refine ⟨_, _, _, rfl, ?_⟩) | (with_reducible refine ⟨fun _ => ?_, fun _ => ?_⟩) | fail))
/-! ### what the bench does -/
structure St where
  line : List Int
  sg : Int
  mood : Int
abbrev St.enc (t : St) : PyData := .tuple [itup t.line, .int t.sg, .int t.mood]
def front : List Int → Int
  | [] => 0
  | z :: _ => z
def within1 (x : Int) (p : Int × Int) : Bool := !(decide (x < p.1) || decide (x > p.2))
def feas (line : List Int) (sg left : Int) (w : Str) : Bool :=
  if w = "go" then true else if w = "group" then !line.isEmpty && decide (front line ≤ left) else decide (sg > 0) && decide (left > 0)
theorem feas_go {line : List Int} {sg left : Int} : feas line sg left "go" = true := if_pos rfl
theorem feas_gr {line : List Int} {sg left : Int} : feas line sg left "group" = (!line.isEmpty && decide (front line ≤ left)) := (if_neg (by decide)).trans (if_pos rfl)
theorem feas_si {line : List Int} {sg left : Int} : feas line sg left "single" = (decide (sg > 0) && decide (left > 0)) := (if_neg (by decide)).trans (if_neg (by decide))
def fitG (can : Str → Bool) (a b c d mood : Int) (r : Rw) : Bool :=
  decide (r.m = mood) && (can r.d && (within1 a r.f && (within1 b r.l && (within1 c r.s && within1 d r.o))))
def fits (line : List Int) (sg left por mood : Int) (r : Rw) : Bool := fitG (feas line sg left) (front line) left sg por mood r
structure Fl where
  line : List Int
  sg : Int
  mood : Int
  left : Int
  ds : List (Str × Int)
def stepF (x : Fl) (r : Rw) : Fl :=
  if r.d = "go" then { x with mood := r.a } else if r.d = "group" then ⟨x.line.tail, x.sg, r.a, x.left - front x.line, x.ds ++ [(("group" : Str), front x.line)]⟩ else ⟨x.line, x.sg - 1, r.a, x.left - 1, x.ds ++ [(("single" : Str), 1)]⟩
def fill (rs : List Rw) (por : Int) : Nat → Fl → Fl
  | 0, x => x
  | n + 1, x => match rs.find? (fits x.line x.sg x.left por x.mood) with
    | none => x
    | some r => if r.d = "go" then stepF x r else fill rs por n (stepF x r)
abbrev encD (ds : List (Str × Int)) : List PyData := ds.map fun d => .tuple [.str d.1, .int d.2]
def comeL (r1 : Int) : List Int → List Int × Int → List Int × Int
  | [], x => x
  | g :: gs, x => comeL r1 gs (if (x.1.length : Int) < r1 then (x.1 ++ [g], x.2) else (x.1, x.2 + g))
def comeF (s : Shop) (sg : Int) (c : Com) : Int := if s.r2 - sg < c.k then s.r2 - sg else c.k
section
variable {P : Program} {w : World} {K : PySem.W.Frag} [Tb K] {mg : Str → Option Value} {base : Heap}
abbrev spWith : ASp := fun as Ω P => ∃ (xs : List Int) (ps : List (Int × Int)), as = [.dat (itup xs), .dat (.tuple (ps.map fun p => rng p.1 p.2))] ∧ xs.length = ps.length ∧ P (.dat (.bool ((xs.zip ps).all fun z => within1 z.1 z.2))) Ω
theorem zipA_at {ds es : List PyData} {i : Nat} {a : Av} (h : (zipA ds es)[i]? = some a) : i < ds.length ∧ a = .dat (.tuple [ds.getD i .none, es.getD i .none]) := by
  obtain ⟨hi, rfl⟩ := rng_at h
  exact ⟨hi, rfl⟩
theorem ok_within (T : Top K mg) : FnOk P w K mg base CX0 1 T.f_within T.d_within ["looks", "spans"] (spA K spWith) := by
  refine fnA_ok T.D_within.F sc_within (fun as Ω P ⟨xs, ps, e, _⟩ => by subst e; rfl) (fun cdv A outer s H E hr => ?_)
  refine ⟨_, (pss_cons (ps_for PassesOwn.never rfl (Dat.zipQ (K := K) rfl rfl T.b_zip (pa_cons (pv 0) (pa_cons (pv 1) pa_nil))) (Dat.pgT (K := K) (n := 2) rfl rfl (pgs_cons (pg_name (i := 2) sc_within.nd rfl (.inl rfl)) (pgs_cons (Dat.pgT (K := K) (n := 2) rfl rfl (pgs_cons (pg_name (i := 3) sc_within.nd rfl (.inl rfl)) (pgs_cons (pg_name (i := 4) sc_within.nd rfl (.inl rfl)) pgs_nil))) pgs_nil)))
      (pss_one (ps_if (PW.pt (pw_or (pt_cmpR op_lt (pv 2) (pv 3) (nomark _)) (pw_or1 (pt_cmpR op_gt (pv 2) (pv 4) (nomark _)))))
        (pss_one (ps_ret pe_bl))
        pss_nil)))
    (pss_one (ps_ret pe_bl))), ?_⟩
  rintro as Ω P ⟨xs, ps, rfl, hl, h⟩
  refine s_seqM (fun Γ' Ω' => Ω = Ω' ∧ ∀ z ∈ xs.zip ps, within1 z.1 z.2 = true) ?_ ?_
  · refine s_for (fun as i Γ' Ω' => as = zipA (xs.map PyData.int) (ps.map fun p => rng p.1 p.2) ∧ Ω = Ω' ∧ (∃ x y z, Γ' = [some (.dat (itup xs)), some (.dat (.tuple (ps.map fun p => rng p.1 p.2))), x, y, z]) ∧ ∀ z ∈ (xs.zip ps).take i, within1 z.1 z.2 = true) ?_
    refine i_zipT (a_cons (e_var rfl (a_cons (e_var rfl (a_nil ⟨_, _, rfl, by rw [List.length_map, List.length_map, hl], ⟨rfl, rfl, ⟨_, _, _, rfl⟩, (fun z hz => by simp at hz)⟩, ?_, ?_⟩)))))
    · rintro i it Γ' Ω' hit ⟨_, rfl, ⟨x, y, z, rfl⟩, hw⟩
      obtain ⟨hi, rfl⟩ := zipA_at hit
      rw [List.length_map] at hi
      have hi2 : i < ps.length := by omega
      have e1 : (xs.map PyData.int).getD i .none = .int xs[i] := by
        rw [List.getD_eq_getElem?_getD, List.getElem?_map, List.getElem?_eq_getElem hi]
        rfl
      have e2 : (ps.map fun p => rng p.1 p.2).getD i .none = rng ps[i].1 ps[i].2 := by
        rw [List.getD_eq_getElem?_getD, List.getElem?_map, List.getElem?_eq_getElem hi2]
        rfl
      have ez : (xs.zip ps)[i]? = some (xs[i], ps[i]) := by
        rw [List.getElem?_zip_eq_some]
        exact ⟨List.getElem?_eq_getElem hi, List.getElem?_eq_getElem hi2⟩
      rw [e1, e2]
      refine g_tup rfl (gs_cons (g_name ⟨rfl, gs_cons (g_tup rfl (gs_cons (g_name ⟨rfl, gs_cons (g_name ⟨rfl, gs_nil ⟨rfl, gs_nil ?_⟩⟩)⟩)))⟩))
      refine s_ifB (b := decide (xs[i] < ps[i].1) || decide (xs[i] > ps[i].2)) (t_orB ?_ fun _ => ?_) (fun z => ?_) fun z => s_next ⟨rfl, rfl, ⟨_, _, _, rfl⟩, fun u hu => ?_⟩
      · exact t_ofC (e_op (e_var rfl (e_var rfl (r_I0b ⟨rfl, rfl⟩))))
      · exact t_ofC (e_op (e_var rfl (e_var rfl (r_I0b ⟨rfl, rfl⟩))))
      · have : ((xs.zip ps).all fun z => within1 z.1 z.2) = false := by
          rw [List.all_eq_false]
          refine ⟨_, List.mem_of_getElem? ez, ?_⟩
          simp only [within1, z]
          decide
        rw [this] at h
        exact s_ret (e_bl h)
      · rw [List.take_add_one, ez] at hu
        rcases List.mem_append.mp hu with hu | hu
        · exact hw u hu
        · have : u = (xs[i], ps[i]) := by simpa using hu
          subst this
          simp only [within1, z]
          rfl
    · rintro Γ' Ω' ⟨_, rfl, _, hw⟩
      refine ⟨rfl, fun z hz => hw z ?_⟩
      rw [List.take_of_length_le]
      · exact hz
      · rw [List.length_zip, zipA, List.length_map, List.length_range, List.length_map]
        omega
  rintro Γ' Ω' ⟨rfl, hw⟩
  rw [List.all_eq_true.mpr hw] at h
  exact s_ret (e_bl h)
abbrev spFit : ASp := fun as Ω P => ∃ (rs : List Rw) (can : Str → Bool) (a b c d mood : Int) (ds : List PyData), as = [.dat (rules rs), .dat (.int mood), .dat (itup [a, b, c, d]), .dat (.tuple ds)] ∧
  ds.all canFlat = true ∧ (∀ r ∈ rs, (ds.any fun e => PyData.eqv e (.str r.d)) = can r.d) ∧ ((∀ r ∈ rs, fitG can a b c d mood r = false) → P (.dat .none) Ω) ∧
  ∀ (i : Nat) r, rs[i]? = some r → fitG can a b c d mood r = true → (∀ j r', j < i → rs[j]? = some r' → fitG can a b c d mood r' = false) → P (.dat (.int (i : Nat))) Ω
theorem rules_at {rs : List Rw} {i : Nat} {d : PyData} (h : (rs.map Rw.enc)[i]? = some d) : ∃ r, rs[i]? = some r ∧ d = r.enc := by
  rw [List.getElem?_map] at h
  cases e : rs[i]? with
  | none => rw [e] at h; cases h
  | some r =>
    rw [e] at h
    cases h
    exact ⟨r, rfl, rfl⟩
theorem ok_fit (T : Top K mg) : FnOk P w K mg base CX0 2 T.f_fitting_row T.d_fitting_row ["rule", "mood", "looks", "deeds"] (spA K spFit) := by
  have G_within : FnOk P w K mg base CX0 1 T.f_within T.d_within ["looks", "spans"] (spA K spWith) := ok_within T
  refine fnA_ok T.D_fitting_row.F sc_fitting_row (fun as Ω P ⟨rs, can, qa, qb, qc, qd, mood, ds, e, _⟩ => by subst e; rfl) (fun cdv A outer s H E hr => ?_)
  refine ⟨_, (pss_cons (ps_for PassesOwn.never rfl (Dat.enumTQ (K := K) rfl rfl T.b_enumerate (pa_cons (pv 0) pa_nil)) (Dat.pgT (K := K) (n := 2) rfl rfl (pgs_cons (pg_name (i := 4) sc_fitting_row.nd rfl (.inl rfl)) (pgs_cons (pg_name (i := 5) sc_fitting_row.nd rfl (.inl rfl)) pgs_nil)))
      (pss_one (ps_if (PW.pt (pw_and (pt_cmpR op_eq (pe_ix (Dat.ixT (K := K) rfl) (pv 5) pe_int (fun _ _ => rfl)) (pv 1) (nomark _)) (pw_and (pt_cmpR (Dat.inQ (K := K) rfl) (pe_ix (Dat.ixT (K := K) rfl) (pv 5) pe_int (fun _ _ => rfl)) (pv 3) rfl) (pw_and1 (pt_val (pe_call G_within (hr.mono (by omega)) rfl T.D_within.g T.D_within.F.kp T.D_within.b .nil pass0 (pa_cons (pv 2) (pa_cons (pe_slice (Dat.slT (K := K) rfl) (pv 5) (po_some pe_int) (po_some pe_int)) pa_nil))))))))
        (pss_one (ps_ret (pv 4)))
        pss_nil)))
    (pss_one (ps_ret pe_non))), ?_⟩
  rintro as Ω P ⟨rs, can, qa, qb, qc, qd, mood, ds, rfl, fl, hf, h1, h2⟩
  refine s_seqM (fun Γ' Ω' => Ω = Ω' ∧ ∀ r ∈ rs, fitG can qa qb qc qd mood r = false) ?_ ?_
  · refine s_for (fun as i Γ' Ω' => as = enumA (rs.map Rw.enc) ∧ Ω = Ω' ∧ (∃ x y, Γ' = [some (.dat (rules rs)), some (.dat (.int mood)), some (.dat (itup [qa, qb, qc, qd])), some (.dat (.tuple ds)), x, y]) ∧ ∀ j r', j < i → rs[j]? = some r' → fitG can qa qb qc qd mood r' = false) ?_
    refine i_enumT (a_cons (e_var rfl (a_nil ⟨_, rfl, ⟨rfl, rfl, ⟨_, _, rfl⟩, (fun j r' hj => absurd hj (Nat.not_lt_zero _))⟩, ?_, ?_⟩)))
    · rintro i it Γ' Ω' hit ⟨_, rfl, ⟨x, y, rfl⟩, hw⟩
      obtain ⟨d, hd, rfl⟩ := enumA_at hit
      obtain ⟨r, er, rfl⟩ := rules_at hd
      refine g_tup rfl (gs_cons (g_name ⟨rfl, gs_cons (g_name ⟨rfl, gs_nil ?_⟩)⟩))
      refine s_ifB (b := fitG can qa qb qc qd mood r) (t_andB ?_ fun _ => t_andB ?_ fun _ => ?_) (fun z => ?_) fun z => s_next ⟨rfl, rfl, ⟨_, _, rfl⟩, fun j r' hj e' => ?_⟩
      · exact t_ofC (e_op (e_op (e_var rfl (e_int (r_ixT rfl (e_var rfl (r_eq rfl ⟨rfl, rfl⟩)))))))
      · refine t_ofC (e_op (e_op (e_var rfl (e_int (r_ixT rfl (e_var rfl (r_inT rfl fl ⟨?_, rfl⟩)))))))
        rw [if_neg (by decide), hf r (List.mem_of_getElem? er)]
      · refine t_ofB (e_call (a_cons (e_var rfl (a_cons (e_slT (e_var rfl ⟨_, rfl, o_some (e_int ⟨_, rfl, o_some (e_int ⟨_, rfl, a_nil ⟨[qa, qb, qc, qd], [r.f, r.l, r.s, r.o], rfl, rfl, ?_, rfl⟩⟩)⟩)⟩))))))
        simp [List.zip, List.zipWith]
      · exact s_ret (e_var rfl (h2 i r er z hw))
      · by_cases e : j = i
        · subst e
          rw [er] at e'
          cases e'
          exact z
        · exact hw j r' (by omega) e'
    · rintro Γ' Ω' ⟨_, rfl, _, hw⟩
      refine ⟨rfl, fun r hr => ?_⟩
      obtain ⟨j, hj⟩ := List.getElem?_of_mem hr
      refine hw j r ?_ hj
      rw [enumA_len, List.length_map]
      exact (List.getElem?_eq_some_iff.mp hj).1
  rintro Γ' Ω' ⟨rfl, hw⟩
  exact s_ret (e_non (h1 hw))
abbrev spDeeds : ASp := fun as Ω P => ∃ (line : List Int) (sg left : Int), as = [.dat (itup line), .dat (.int sg), .dat (.int left)] ∧ ∀ ds : List PyData, ds.all canFlat = true → (∀ w ∈ seatWs, (ds.any fun e => PyData.eqv e (.str w)) = feas line sg left w) → P (.dat (.tuple ds)) Ω
theorem all3 {p : Str → Prop} (h1 : p "group") (h2 : p "single") (h3 : p "go") : ∀ w ∈ seatWs, p w := fun w hw => by
  simp only [List.mem_cons, List.not_mem_nil, or_false] at hw
  rcases hw with rfl | rfl | rfl
  · exact h1
  · exact h2
  · exact h3
theorem deeds_in {line : List Int} {sg left : Int} (hb : feas line sg left "group" = true) : (PyData.str "group" :: (if feas line sg left "single" then [PyData.str "single", .str "go"] else [.str "go"])).all canFlat = true ∧ ∀ w ∈ seatWs, ((PyData.str "group" :: (if feas line sg left "single" then [PyData.str "single", .str "go"] else [.str "go"])).any fun e => PyData.eqv e (.str w)) = feas line sg left w := by
  refine ⟨by cases feas line sg left "single" <;> rfl, all3 ?_ ?_ ?_⟩
  · rw [hb]; cases feas line sg left "single" <;> decide
  · cases feas line sg left "single" <;> decide
  · rw [feas_go]; cases feas line sg left "single" <;> decide
theorem deeds_out {line : List Int} {sg left : Int} (hb : feas line sg left "group" = false) : (if feas line sg left "single" then [PyData.str "single", .str "go"] else [.str "go"]).all canFlat = true ∧ ∀ w ∈ seatWs, ((if feas line sg left "single" then [PyData.str "single", .str "go"] else [.str "go"]).any fun e => PyData.eqv e (.str w)) = feas line sg left w := by
  refine ⟨by cases feas line sg left "single" <;> rfl, all3 ?_ ?_ ?_⟩
  · rw [hb]; cases feas line sg left "single" <;> decide
  · cases feas line sg left "single" <;> decide
  · rw [feas_go]; cases feas line sg left "single" <;> decide
theorem ok_deeds (T : Top K mg) : FnOk P w K mg base CX0 1 T.f_bench_deeds T.d_bench_deeds ["line", "singles", "left"] (spA K spDeeds) := by
  refine fnA_ok T.D_bench_deeds.F sc_bench_deeds (fun as Ω P ⟨line, sg, left, e, _⟩ => by subst e; rfl) (fun cdv A outer s H E hr => ?_)
  refine ⟨_, (pss_cons (ps_set (i := 3) sc_bench_deeds.nd rfl (.inl rfl) (pe_tup (pa_cons pe_str pa_nil)))
    (pss_cons (ps_if (PW.pt (pw_and (pt_cmpR op_gt (pv 1) pe_int (nomark _)) (pw_and1 (pt_cmpR op_gt (pv 2) pe_int (nomark _)))))
      (pss_one (ps_set (i := 3) sc_bench_deeds.nd rfl (.inl rfl) (pe_op (Dat.catT (K := K) rfl) (pe_tup (pa_cons pe_str pa_nil)) (pv 3))))
      pss_nil)
    (pss_cons (ps_if (PW.pt (pw_and (Dat.truQ (K := K) rfl (pv 0)) (pw_and1 (pt_cmpR op_le (pe_ix (Dat.ixT (K := K) rfl) (pv 0) pe_int (fun _ _ => rfl)) (pv 2) (nomark _)))))
      (pss_one (ps_set (i := 3) sc_bench_deeds.nd rfl (.inl rfl) (pe_op (Dat.catT (K := K) rfl) (pe_tup (pa_cons pe_str pa_nil)) (pv 3))))
      pss_nil)
    (pss_one (ps_ret (pv 3)))))), ?_⟩
  rintro as Ω P ⟨line, sg, left, rfl, h⟩
  have hs : feas line sg left "single" = (decide (sg > 0) && decide (left > 0)) := feas_si
  refine s_seq (s_asg (e_tupD (a_cons (e_str (a_nil ⟨_, .cons .nil, rfl, ?_⟩)))))
  refine s_seqM (fun Γ' Ω' => Ω = Ω' ∧ Γ' = [some (.dat (itup line)), some (.dat (.int sg)), some (.dat (.int left)), some (.dat (.tuple (if feas line sg left "single" then [PyData.str "single", .str "go"] else [.str "go"])))]) ?_ ?_
  · refine s_ifB (b := decide (sg > 0) && decide (left > 0)) (t_andB ?_ fun _ => ?_) (fun z => ?_) fun z => s_next ⟨rfl, ?_⟩
    · exact t_ofC (e_op (e_var rfl (e_int (r_I0b ⟨rfl, rfl⟩))))
    · exact t_ofC (e_op (e_var rfl (e_int (r_I0b ⟨rfl, rfl⟩))))
    · exact s_asg (e_op (e_tupD (a_cons (e_str (a_nil ⟨_, .cons .nil, rfl, e_var rfl (r_catT (by decide) ⟨rfl, by rw [hs, z]; rfl⟩)⟩)))))
    · rw [hs, z]
      rfl
  rintro Γ' Ω' ⟨rfl, rfl⟩
  refine s_seqM (fun Γ' Ω' => Ω = Ω' ∧ ∃ ds, ds.all canFlat = true ∧ (∀ w ∈ seatWs, (ds.any fun e => PyData.eqv e (.str w)) = feas line sg left w) ∧ Γ' = [some (.dat (itup line)), some (.dat (.int sg)), some (.dat (.int left)), some (.dat (.tuple ds))]) ?_ ?_
  · match line with
    | [] =>
      have hg : feas [] sg left "group" = false := by rw [feas_gr]; rfl
      exact s_if (t_and (t_truT (e_var rfl ⟨_, rfl, nofun, fun _ => ⟨nofun, fun _ => s_next ⟨rfl, _, (deeds_out hg).1, (deeds_out hg).2, rfl⟩⟩⟩)))
    | z :: r =>
      refine s_if (t_and (t_truT (e_var rfl ⟨_, rfl, (fun _ => ?_), nofun⟩)))
      refine t_test (e_op (e_op (e_var rfl (e_int (r_ixT (d := .int z) (atI_nat' (i := 0) rfl) (e_var rfl (r_I0b ⟨_, rfl, (fun h1 => ?_), (fun h1 => ?_)⟩)))))))
      · have hg : feas (z :: r) sg left "group" = true := by rw [feas_gr]; exact h1
        exact s_asg (e_op (e_tupD (a_cons (e_str (a_nil ⟨_, .cons .nil, rfl, e_var rfl (r_catT (by split <;> decide) ⟨rfl, _, (deeds_in hg).1, (deeds_in hg).2, rfl⟩)⟩)))))
      · have hg : feas (z :: r) sg left "group" = false := by rw [feas_gr]; exact h1
        exact s_next ⟨rfl, _, (deeds_out hg).1, (deeds_out hg).2, rfl⟩
  rintro Γ' Ω' ⟨rfl, ds, fl, hf, rfl⟩
  exact s_ret (e_var rfl (h ds fl hf))
abbrev spCome : ASp := fun as Ω P => ∃ (s : Shop) (line : List Int) (sg : Int) (c : Com), as = [.dat s.enc, .dat (itup line), .dat (.int sg), .dat c.enc] ∧ s.Ok ∧ c.Ok s ∧ line.length ≤ 100 ∧
  P (.dat (.tuple [itup (comeL s.r1 c.gs (line, 0)).1, .int (sg + comeF s sg c), .int ((comeL s.r1 c.gs (line, 0)).2 + c.k - comeF s sg c)])) Ω
theorem comeL_snoc (r1 : Int) (gs : List Int) (x : List Int × Int) (i : Nat) (g : Int) (e : gs[i]? = some g) : comeL r1 (gs.drop i) x = comeL r1 (gs.drop (i + 1)) (if (x.1.length : Int) < r1 then (x.1 ++ [g], x.2) else (x.1, x.2 + g)) := by
  obtain ⟨hi, hg⟩ := List.getElem?_eq_some_iff.mp e
  rw [List.drop_eq_getElem_cons hi, hg]
  rfl
theorem ok_come (T : Top K mg) : FnOk P w K mg base CX0 1 T.f_come_in T.d_come_in ["setup", "line", "singles", "comers"] (spA K spCome) := by
  refine fnA_ok T.D_come_in.F sc_come_in (fun as Ω P ⟨s, line, sg, c, e, _⟩ => by subst e; rfl) (fun cdv A outer s H E hr => ?_)
  refine ⟨_, (pss_cons (ps_asg (pv 3) (Dat.pgT (K := K) (n := 2) rfl rfl (pgs_cons (pg_name (i := 4) sc_come_in.nd rfl (.inl rfl)) (pgs_cons (pg_name (i := 5) sc_come_in.nd rfl (.inl rfl)) pgs_nil))))
    (pss_cons (ps_set (i := 6) sc_come_in.nd rfl (.inl rfl) pe_int)
    (pss_cons (ps_for PassesOwn.never rfl (Dat.piT (K := K) rfl (pv 4)) (pg_name (i := 7) sc_come_in.nd rfl (.inl rfl))
      (pss_one (ps_if (pt_cmpR op_lt (pe_callB (Dat.lenQ (K := K) rfl) rfl T.b_len bt_len (pa_cons (pv 1) pa_nil)) (pe_ix (Dat.ixT (K := K) rfl) (pe_ix (Dat.ixT (K := K) rfl) (pv 0) pe_int (fun _ _ => rfl)) pe_int (fun _ _ => rfl)) (nomark _))
        (pss_one (ps_set (i := 1) sc_come_in.nd rfl (.inl rfl) (pe_op (Dat.catT (K := K) rfl) (pv 1) (pe_tup (pa_cons (pv 7) pa_nil)))))
        (pss_one (ps_aug (i := 6) sc_come_in.nd rfl (.inl rfl) (pv 7) ip_add)))))
    (pss_cons (ps_set (i := 8) sc_come_in.nd rfl (.inl rfl) (pe_callB (Dat.cl_min2 rfl) rfl T.b_min bt_min (pa_cons (pv 5) (pa_cons (pe_op op_sub (pe_ix (Dat.ixT (K := K) rfl) (pe_ix (Dat.ixT (K := K) rfl) (pv 0) pe_int (fun _ _ => rfl)) pe_int (fun _ _ => rfl)) (pv 2)) pa_nil))))
    (pss_one (ps_ret (pe_tup (pa_cons (pv 1) (pa_cons (pe_op op_add (pv 2) (pv 8)) (pa_cons (pe_op op_sub (pe_op op_add (pv 6) (pv 5)) (pv 8)) pa_nil)))))))))), ?_⟩
  rintro as Ω P ⟨s, line, sg, c, rfl, so, co, hl, h⟩
  refine s_seq (s_asgG (e_var rfl (g_tup rfl (gs_cons (g_name ⟨rfl, gs_cons (g_name ⟨rfl, gs_nil ?_⟩)⟩)))))
  refine s_seq (s_asg (e_int ?_))
  refine s_seqM (fun Γ' Ω' => Ω = Ω' ∧ ∃ y, Γ' = [some (.dat s.enc), some (.dat (itup (comeL s.r1 c.gs (line, 0)).1)), some (.dat (.int sg)), some (.dat c.enc), some (.dat (itup c.gs)), some (.dat (.int c.k)), some (.dat (.int (comeL s.r1 c.gs (line, 0)).2)), y, none]) ?_ ?_
  · refine s_for (fun as i Γ' Ω' => as = (c.gs.map PyData.int).map .dat ∧ Ω = Ω' ∧ ∃ y ln aw, comeL s.r1 c.gs (line, 0) = comeL s.r1 (c.gs.drop i) (ln, aw) ∧ ln.length ≤ 100 + i ∧ Γ' = [some (.dat s.enc), some (.dat (itup ln)), some (.dat (.int sg)), some (.dat c.enc), some (.dat (itup c.gs)), some (.dat (.int c.k)), some (.dat (.int aw)), y, none]) ?_
    refine i_tup (e_var rfl ⟨_, rfl, ⟨rfl, rfl, _, line, 0, rfl, hl, rfl⟩, ?_, ?_⟩)
    · rintro i it Γ' Ω' hit ⟨_, rfl, y, ln, aw, hc, l1, rfl⟩
      have hi := (List.getElem?_eq_some_iff.mp hit).1
      rw [List.length_map, List.length_map] at hi
      have hg : c.gs[i]? = some c.gs[i] := List.getElem?_eq_getElem hi
      have e : it = .dat (.int c.gs[i]) := by
        rw [List.getElem?_map, List.getElem?_map, hg] at hit
        exact (Option.some.inj hit).symm
      subst e
      have hc2 := hc.trans (comeL_snoc s.r1 c.gs (ln, aw) i _ hg)
      have := co.g
      have := so.c11
      refine g_name ?_
      refine s_if (t_test (e_op (e_cb (a_cons (e_var rfl (a_nil (c_lenT (e_op (e_op (e_var rfl (e_int (r_ixT rfl (e_int (r_ixT rfl (r_I0b ⟨_, rfl, (fun z => ?_), (fun z => ?_)⟩)))))))))))))))
      · have z' := of_decide_eq_true z
        rw [List.length_map] at z'
        rw [if_pos z'] at hc2
        refine s_asg (e_op (e_var rfl (e_tupD (a_cons (e_var rfl (a_nil ⟨_, .cons .nil, rfl, r_catT (by rw [List.length_map]; show _ + 1 ≤ _; omega) ⟨rfl, rfl, some (.dat (.int c.gs[i])), ln ++ [c.gs[i]], aw, hc2, by rw [List.length_append]; show _ + 1 ≤ _; omega, ?_⟩⟩))))))
        rw [show itup (ln ++ [c.gs[i]]) = PyData.tuple (ln.map PyData.int ++ [.int c.gs[i]]) from congrArg PyData.tuple List.map_append]
        rfl
      · have z' := of_decide_eq_false z
        rw [List.length_map] at z'
        rw [if_neg z'] at hc2
        exact s_aug rfl (e_var rfl ⟨_, rfl, rfl, rfl, some (.dat (.int c.gs[i])), ln, _, hc2, by omega, rfl⟩)
    · rintro Γ' Ω' ⟨_, rfl, y, ln, aw, hc, l1, rfl⟩
      rw [List.length_map, List.length_map, List.drop_length] at hc
      rw [hc]
      exact ⟨rfl, y, rfl⟩
  rintro Γ' Ω' ⟨rfl, y, rfl⟩
  refine s_seq (s_asg (e_cb (a_cons (e_var rfl (a_cons (e_op (e_op (e_op (e_var rfl (e_int (r_ixT rfl (e_int (r_ixT rfl (e_var rfl (r_I0i (a_nil (c_min2 ?_)))))))))))))))))
  refine s_ret (e_tupD (a_cons (e_var rfl (a_cons (e_op (e_var rfl (e_var rfl (r_I0i (a_cons (e_op (e_op (e_var rfl (e_var rfl (r_I0i (e_var rfl (r_I0i (a_nil ⟨_, .cons (.cons (.cons .nil)), rfl, h⟩)))))))))))))))))
end
end K38

set_option Elab.async false
set_option linter.all false
set_option maxRecDepth 100000
set_option maxHeartbeats 1000000
namespace K38
open PySem PySem.Spec PyProof.Rows L2 Dat LamX Clo
local macro_rules | `(tactic| trivial) => `(tactic| (first
  | (with_reducible refine s_seq ?_)
  | (with_reducible refine s_asg ?_)
  | (with_reducible refine s_ret ?_)
  | (with_reducible refine s_drop ?_)
  | (with_reducible refine s_next ?_)
  | (with_reducible refine s_retN ?_)
  | (with_reducible refine s_brk ?_)
  | (with_reducible refine s_cont ?_)
  | (with_reducible refine s_if ?_)
  | (with_reducible refine e_int ?_)
  | (with_reducible refine e_str ?_)
  | (with_reducible refine e_bl ?_)
  | (with_reducible refine e_non ?_)
  | (with_reducible refine e_ty ?_)
  | (with_reducible refine e_tupD ?_)
  | (with_reducible refine e_lstD ?_)
  | (with_reducible refine e_op ?_)
  | (with_reducible refine e_un ?_)
  | (with_reducible refine e_then ?_)
  | (with_reducible refine e_cb ?_)
  | (with_reducible refine e_call ?_)
  | (with_reducible refine e_if ?_)
  | (with_reducible refine e_chain ?_)
  | (with_reducible refine e_andV ?_)
  | (with_reducible refine e_orV ?_)
  | (with_reducible refine e_notV ?_)
  | (with_reducible refine a_cons ?_)
  | (with_reducible refine a_nil ?_)
  | (with_reducible refine t_test ?_)
  | (with_reducible refine t_B ?_)
  | (with_reducible refine t_not ?_)
  | (with_reducible refine t_and ?_)
  | (with_reducible refine t_or ?_)
  | (with_reducible refine r_I0i ?_)
  | (with_reducible refine r_I0b ?_)
  | (with_reducible refine r_neg ?_)
  | (with_reducible refine r_isN ?_)
  | (with_reducible refine r_notN ?_)
  | (with_reducible refine c_lenT ?_)
  | (with_reducible refine c_lenL ?_)
  | (with_reducible refine c_intI ?_)
  | (with_reducible refine c_intB ?_)
  | (with_reducible refine c_max2 ?_)
  | (with_reducible refine c_min2 ?_)
  | (with_reducible refine c_abs ?_)
  | (with_reducible refine r_tupL ?_)
  | (with_reducible refine r_tupT ?_)
  | (with_reducible refine c_allM ?_)
  | ((with_reducible apply e_var); (exact rfl))
  | ((with_reducible refine r_eq ?_ ?_); (exact rfl))
  | ((with_reducible refine r_ne ?_ ?_); (exact rfl))
  | (with_reducible refine c_isi kit_int ?_)
  | (with_reducible refine c_isi kit_bool ?_)
  | (with_reducible refine c_isi kit_tuple ?_)
  | (with_reducible refine c_isi kit_list ?_)
  | (with_reducible refine c_isi kit_str ?_)
  | ((with_reducible apply r_ixT); (exact rfl))
  | ((with_reducible apply dats_pack); (iterate 40 (first | exact Dats.nil | apply Dats.cons | skip)); (exact rfl))
  | (with_reducible refine s_asgG ?_) | (with_reducible refine g_name ?_) | ((with_reducible refine g_tup ?_ ?_); (exact rfl)) | (refine gs_nil ?_) | (refine gs_cons ?_) | (with_reducible refine ⟨rfl, ?_⟩)
  | (refine ⟨_, rfl, ?_⟩) | (refine ⟨_, _, rfl, ?_⟩) | (refine ⟨_, _, _, rfl, ?_⟩) | (with_reducible refine ⟨fun _ => ?_, fun _ => ?_⟩) | fail))
/-! ### filling the bench, one beat, a row -/
structure FlOk (s : Shop) (x : Fl) : Prop where
  z : ∀ z ∈ x.line, 1 ≤ z ∧ z ≤ s.n
  l : x.line.length ≤ 2
  g0 : 0 ≤ x.sg
  g2 : x.sg ≤ s.r2
  m0 : 0 ≤ x.mood
  m2 : x.mood ≤ 2
structure StOk (s : Shop) (t : St) : Prop where
  z : ∀ z ∈ t.line, 1 ≤ z ∧ z ≤ s.n
  l : t.line.length ≤ 2
  g0 : 0 ≤ t.sg
  g2 : t.sg ≤ s.r2
  m0 : 0 ≤ t.mood
  m2 : t.mood ≤ 2
theorem fits_feas {line : List Int} {sg left por mood : Int} {r : Rw} (h : fits line sg left por mood r = true) : feas line sg left r.d = true := by
  simp only [fits, fitG, Bool.and_eq_true] at h
  exact h.2.1
theorem feas_group {line : List Int} {sg left : Int} (h : feas line sg left "group" = true) : ∃ z t, line = z :: t ∧ z ≤ left := by
  rw [feas_gr] at h
  cases line with
  | nil => cases h
  | cons z t => exact ⟨z, t, rfl, of_decide_eq_true h⟩
theorem feas_single {line : List Int} {sg left : Int} (h : feas line sg left "single" = true) : 0 < sg ∧ 0 < left := by
  rw [feas_si] at h
  simp only [Bool.and_eq_true, decide_eq_true_eq] at h
  omega
theorem seat3 {r : Rw} (h : r.Ok seatWs) : r.d = "group" ∨ r.d = "single" ∨ r.d = "go" := by
  have := h.d
  simp only [List.mem_cons, List.not_mem_nil, or_false] at this
  exact this
theorem FlOk.step {s : Shop} {x : Fl} {r : Rw} (h : FlOk s x) (ro : r.Ok seatWs) (f : feas x.line x.sg x.left r.d = true) : FlOk s (stepF x r) := by
  unfold stepF
  split
  · exact ⟨h.z, h.l, h.g0, h.g2, ro.a0, ro.a2⟩
  · next n1 =>
    split
    · refine ⟨fun z hz => h.z z (List.mem_of_mem_tail hz), ?_, h.g0, h.g2, ro.a0, ro.a2⟩
      have := h.l
      show x.line.tail.length ≤ 2
      rw [List.length_tail]
      omega
    · next n2 =>
      have e : r.d = "single" := by
        rcases seat3 ro with e | e | e
        · exact absurd e n2
        · exact e
        · exact absurd e n1
      rw [e] at f
      have := feas_single f
      have := h.g0
      have := h.g2
      exact ⟨h.z, h.l, by show 0 ≤ x.sg - 1; omega, by show x.sg - 1 ≤ s.r2; omega, ro.a0, ro.a2⟩
theorem FlOk.fill {s : Shop} {rs : List Rw} {por : Int} (ro : ∀ r ∈ rs, r.Ok seatWs) : ∀ (n : Nat) {x : Fl}, FlOk s x → FlOk s (fill rs por n x)
  | 0, _, h => h
  | n + 1, x, h => by
    unfold K38.fill
    split
    · exact h
    · next r e =>
      have m := List.mem_of_find?_eq_some e
      have p := fits_feas (List.find?_some e)
      split
      · exact h.step (ro r m) p
      · exact FlOk.fill ro n (h.step (ro r m) p)
def emptyF (x : Fl) : Int := if (!x.line.isEmpty || decide (x.sg > 0)) = true then x.left else 0
def fillB (s : Shop) (rs : List Rw) (por : Int) (line : List Int) (sg mood : Int) : Fl := fill rs por (s.n.toNat + 1) ⟨line, sg, mood, s.n, []⟩
def comeT (s : Shop) (t : St) (c : Com) : List Int × Int := comeL s.r1 c.gs (t.line, 0)
def beatF (s : Shop) (rs : List Rw) (por : Int) (t : St) (c : Com) : Fl := fillB s rs por (comeT s t c).1 (t.sg + comeF s t.sg c) t.mood
def awayF (s : Shop) (t : St) (c : Com) : Int := (comeT s t c).2 + c.k - comeF s t.sg c
def stOf (x : Fl) : St := ⟨x.line, x.sg, x.mood⟩
theorem comeL_ok {s : Shop} (so : s.Ok) : ∀ {gs : List Int} {x : List Int × Int}, (∀ g ∈ gs, g ∈ s.sizes) → (∀ z ∈ x.1, 1 ≤ z ∧ z ≤ s.n) → x.1.length ≤ 2 → (∀ z ∈ (comeL s.r1 gs x).1, 1 ≤ z ∧ z ≤ s.n) ∧ (comeL s.r1 gs x).1.length ≤ 2
  | [], x, _, h1, h2 => ⟨h1, h2⟩
  | g :: gs, x, hg, h1, h2 => by
    unfold comeL
    refine comeL_ok so (fun z hz => hg z (List.mem_cons_of_mem _ hz)) ?_ ?_
    · split
      · intro z hz
        rcases List.mem_append.mp hz with hz | hz
        · exact h1 z hz
        · rw [List.mem_singleton.mp hz]
          exact so.zb g (hg g (List.mem_cons_self ..))
      · exact h1
    · split
      · next h =>
        have := so.r12
        rw [List.length_append]
        show _ + 1 ≤ 2
        omega
      · exact h2
theorem comeF_ok {s : Shop} {sg : Int} {c : Com} (co : c.Ok s) (g0 : 0 ≤ sg) (g2 : sg ≤ s.r2) : 0 ≤ comeF s sg c ∧ comeF s sg c ≤ s.r2 - sg ∧ comeF s sg c ≤ c.k := by
  unfold comeF
  have := co.k0
  split <;> omega
theorem beat_ok {s : Shop} {rs : List Rw} {por : Int} {t : St} {c : Com} (so : s.Ok) (ro : ∀ r ∈ rs, r.Ok seatWs) (co : c.Ok s) (to : StOk s t) : FlOk s (beatF s rs por t c) := by
  have h := comeL_ok so co.z to.z to.l (x := (t.line, 0))
  have hf := comeF_ok co to.g0 to.g2
  have := to.g0
  exact FlOk.fill ro _ ⟨h.1, h.2, by show 0 ≤ t.sg + comeF s t.sg c; omega, by show t.sg + comeF s t.sg c ≤ s.r2; omega, to.m0, to.m2⟩
theorem FlOk.st {s : Shop} {x : Fl} (h : FlOk s x) : StOk s (stOf x) := ⟨h.z, h.l, h.g0, h.g2, h.m0, h.m2⟩
section
variable {P : Program} {w : World} {K : PySem.W.Frag} [Tb K] {mg : Str → Option Value} {base : Heap}
theorem cut1 {z : Int} {t : List Int} : Dat.cutD ((z :: t).map PyData.int) (some 1) none = t.map PyData.int := by
  simp only [Dat.cutD, HT.sIx, List.length_map, List.length_cons, List.map_cons]
  rw [if_neg (by decide), show min (Int.toNat 1) (t.length + 1) = 1 by simp, List.drop_succ_cons, List.drop_zero]
  exact List.take_of_length_le (by rw [List.length_map]; omega)
abbrev spFill : ASp := fun as Ω P => ∃ (s : Shop) (rs : List Rw) (line : List Int) (sg mood por : Int), as = [.dat s.enc, .dat (rules rs), .dat (.tuple [itup line, .int sg, .int mood]), .dat (.int por)] ∧ s.Ok ∧ RsOk seatWs rs ∧ (∀ z ∈ line, 1 ≤ z ∧ z ≤ s.n) ∧
  ∀ us : List Int, P (.dat (.tuple [St.enc (stOf (fillB s rs por line sg mood)), .tuple (encD (fillB s rs por line sg mood).ds), .int (emptyF (fillB s rs por line sg mood)), .list (us.map PyData.int)])) Ω
theorem ok_fill (T : Top K mg) : FnOk P w K mg base CX0 3 T.f_fill_bench T.d_fill_bench ["setup", "rule", "standing", "portions"] (spA K spFill) := by
  have G_fitting_row : FnOk P w K mg base CX0 2 T.f_fitting_row T.d_fitting_row ["rule", "mood", "looks", "deeds"] (spA K spFit) := ok_fit T
  have G_bench_deeds : FnOk P w K mg base CX0 1 T.f_bench_deeds T.d_bench_deeds ["line", "singles", "left"] (spA K spDeeds) := ok_deeds T
  refine fnA_ok T.D_fill_bench.F sc_fill_bench (fun as Ω P ⟨s, rs, line, sg, mood, por, e, _⟩ => by subst e; rfl) (fun cdv A outer s H E hr => ?_)
  refine ⟨_, (pss_cons (ps_asg (pv 2) (Dat.pgT (K := K) (n := 3) rfl rfl (pgs_cons (pg_name (i := 4) sc_fill_bench.nd rfl (.inl rfl)) (pgs_cons (pg_name (i := 5) sc_fill_bench.nd rfl (.inl rfl)) (pgs_cons (pg_name (i := 6) sc_fill_bench.nd rfl (.inl rfl)) pgs_nil)))))
    (pss_cons (ps_set (i := 7) sc_fill_bench.nd rfl (.inl rfl) (pe_ix (Dat.ixT (K := K) rfl) (pv 0) pe_int (fun _ _ => rfl)))
    (pss_cons (ps_set (i := 8) sc_fill_bench.nd rfl (.inl rfl) (pe_lst pa_nil))
    (pss_cons (ps_set (i := 9) sc_fill_bench.nd rfl (.inl rfl) (pe_lst pa_nil))
    (pss_cons (ps_while PassesOwn.never (pt_val pe_bl)
      (pss_cons (ps_set (i := 10) sc_fill_bench.nd rfl (.inl rfl) (pe_tup (pa_cons (pe_ifExp (Dat.truQ (K := K) rfl (pv 4)) (pe_ix (Dat.ixT (K := K) rfl) (pv 4) pe_int (fun _ _ => rfl)) pe_int) (pa_cons (pv 7) (pa_cons (pv 5) (pa_cons (pv 3) pa_nil))))))
      (pss_cons (ps_set (i := 11) sc_fill_bench.nd rfl (.inl rfl) (pe_call G_fitting_row (hr.mono (by omega)) rfl T.D_fitting_row.g T.D_fitting_row.F.kp T.D_fitting_row.b .nil pass0 (pa_cons (pv 1) (pa_cons (pv 6) (pa_cons (pv 10) (pa_cons (pe_call G_bench_deeds (hr.mono (by omega)) rfl T.D_bench_deeds.g T.D_bench_deeds.F.kp T.D_bench_deeds.b .nil pass0 (pa_cons (pv 4) (pa_cons (pv 5) (pa_cons (pv 7) pa_nil)))) pa_nil))))))
      (pss_cons (ps_if (pt_cmpR Dat.op_isNo (pv 11) pe_non (nomark _))
        (pss_one ps_break)
        pss_nil)
      (pss_cons (ps_expr (Dat.appQ (K := K) rfl (pv 9) (pa_cons (pv 11) pa_nil)))
      (pss_cons (ps_set (i := 6) sc_fill_bench.nd rfl (.inl rfl) (pe_ix (Dat.ixT (K := K) rfl) (pe_ix (Dat.ixT (K := K) rfl) (pv 1) (pv 11) (fun _ _ => rfl)) pe_int (fun _ _ => rfl)))
      (pss_cons (ps_set (i := 12) sc_fill_bench.nd rfl (.inl rfl) (pe_ix (Dat.ixT (K := K) rfl) (pe_ix (Dat.ixT (K := K) rfl) (pv 1) (pv 11) (fun _ _ => rfl)) pe_int (fun _ _ => rfl)))
      (pss_cons (ps_if (pt_cmpR op_eq (pv 12) pe_str (nomark _))
        (pss_one ps_break)
        pss_nil)
      (pss_cons (ps_set (i := 13) sc_fill_bench.nd rfl (.inl rfl) pe_int)
      (pss_cons (ps_if (pt_cmpR op_eq (pv 12) pe_str (nomark _))
        (pss_cons (ps_set (i := 13) sc_fill_bench.nd rfl (.inl rfl) (pe_ix (Dat.ixT (K := K) rfl) (pv 4) pe_int (fun _ _ => rfl)))
        (pss_one (ps_set (i := 4) sc_fill_bench.nd rfl (.inl rfl) (pe_slice (Dat.slT (K := K) rfl) (pv 4) (po_some pe_int) po_none))))
        (pss_one (ps_aug (i := 5) sc_fill_bench.nd rfl (.inl rfl) pe_int ip_sub)))
      (pss_cons (ps_aug (i := 7) sc_fill_bench.nd rfl (.inl rfl) (pv 13) ip_sub)
      (pss_one (ps_expr (Dat.appQ (K := K) rfl (pv 8) (pa_cons (pe_tup (pa_cons (pv 12) (pa_cons (pv 13) pa_nil))) pa_nil)))))))))))))))
    (pss_one (ps_ret (pe_tup (pa_cons (pe_tup (pa_cons (pv 4) (pa_cons (pv 5) (pa_cons (pv 6) pa_nil)))) (pa_cons (Dat.pe_tupleK (K := K) rfl rfl T.b_tuple (pv 8)) (pa_cons (pe_ifExp (PW.pt (pw_or (Dat.truQ (K := K) rfl (pv 4)) (pw_or1 (pt_cmpR op_gt (pv 5) pe_int (nomark _))))) (pv 7) pe_int) (pa_cons (pv 9) pa_nil)))))))))))), ?_⟩
  rintro as Ω P ⟨s, rs, line, sg, mood, por, rfl, so, ro, zo, h⟩
  refine s_seq (s_asgG (e_var rfl (g_tup rfl (gs_cons (g_name ⟨rfl, gs_cons (g_name ⟨rfl, gs_cons (g_name ⟨rfl, gs_nil ?_⟩)⟩)⟩)))))
  refine s_seq (s_asg (e_op (e_var rfl (e_int (r_ixT rfl ?_)))))
  refine s_seq (s_asg (e_lstP (a_nil ⟨by simp, fun pd nd => ?_⟩)))
  refine s_seq (s_asg (e_lstP (a_nil ⟨by simp, fun pu nu => ?_⟩)))
  have ne : pu ≠ pd := fun e => by rw [e, put_same] at nu; cases nu
  have nu' : Ω pu = none := by rw [put_ne ne] at nu; exact nu
  have n1 := so.n1
  have n4 := so.n4
  obtain ⟨X, hX⟩ : ∃ X, X = fillB s rs por line sg mood := ⟨_, rfl⟩
  rw [← hX] at h
  refine s_seqM (fun Γ' Ω' => ∃ (us : List Int) (a b c d : Option Av), Γ' = [some (.dat s.enc), some (.dat (rules rs)), some (.dat (.tuple [itup line, .int sg, .int mood])), some (.dat (.int por)), some (.dat (itup X.line)), some (.dat (.int X.sg)), some (.dat (.int X.mood)), some (.dat (.int X.left)), some (.ptr pd), some (.ptr pu), a, b, c, d] ∧
    Ω' = put (put Ω pd ((encD X.ds).map .dat)) pu ((us.map PyData.int).map .dat) ∧ X.ds.length ≤ 4) ?_ ?_
  · refine s_while (fun m Γ' Ω' => ∃ (x : Fl) (us : List Int) (a b c d : Option Av), X = fill rs por m x ∧ x.left < (m : Int) ∧ 0 ≤ x.left ∧ (∀ z ∈ x.line, 1 ≤ z) ∧ (x.ds.length : Int) + x.left ≤ 4 ∧ us.length ≤ x.ds.length ∧
      Γ' = [some (.dat s.enc), some (.dat (rules rs)), some (.dat (.tuple [itup line, .int sg, .int mood])), some (.dat (.int por)), some (.dat (itup x.line)), some (.dat (.int x.sg)), some (.dat (.int x.mood)), some (.dat (.int x.left)), some (.ptr pd), some (.ptr pu), a, b, c, d] ∧
      Ω' = put (put Ω pd ((encD x.ds).map .dat)) pu ((us.map PyData.int).map .dat)) (s.n.toNat + 1) ⟨⟨line, sg, mood, s.n, []⟩, [], _, _, _, _, hX, by show s.n < _; omega, by show 0 ≤ s.n; omega, fun z hz => (zo z hz).1, by show (0 : Int) + s.n ≤ 4; omega, Nat.le_refl _, rfl, rfl⟩ ?_
    rintro m Γ' Ω' ⟨x, us, a, b, c, d, hx, lm, l0, zx, ld, lu, rfl, rfl⟩
    obtain ⟨n, rfl⟩ : ∃ n, m = n + 1 := ⟨m - 1, by omega⟩
    refine t_B (e_bl ⟨true, rfl, fun _ => ?_, nofun⟩)
    refine s_seqM (fun Γ' Ω' => Ω' = put (put Ω pd ((encD x.ds).map .dat)) pu ((us.map PyData.int).map .dat) ∧ Γ' = [some (.dat s.enc), some (.dat (rules rs)), some (.dat (.tuple [itup line, .int sg, .int mood])), some (.dat (.int por)), some (.dat (itup x.line)), some (.dat (.int x.sg)), some (.dat (.int x.mood)), some (.dat (.int x.left)), some (.ptr pd), some (.ptr pu), some (.dat (itup [front x.line, x.left, x.sg, por])), b, c, d]) ?_ ?_
    · match hxl : x.line with
      | [] => exact s_asg (e_tupD (a_cons (e_if (t_truT (e_var rfl ⟨_, rfl, nofun, fun _ => e_int (a_cons (e_var rfl (a_cons (e_var rfl (a_cons (e_var rfl (a_nil ⟨_, .cons (.cons (.cons (.cons .nil))), rfl, rfl, rfl⟩)))))))⟩)))))
      | z :: t => exact s_asg (e_tupD (a_cons (e_if (t_truT (e_var rfl ⟨_, rfl, (fun _ => e_op (e_var rfl (e_int (r_ixT (d := .int z) (atI_nat' (i := 0) rfl) (a_cons (e_var rfl (a_cons (e_var rfl (a_cons (e_var rfl (a_nil ⟨_, .cons (.cons (.cons (.cons .nil))), rfl, rfl, rfl⟩))))))))))), nofun⟩)))))
    rintro Γ' Ω' ⟨rfl, rfl⟩
    refine s_seqM (fun Γ' Ω' => Ω' = put (put Ω pd ((encD x.ds).map .dat)) pu ((us.map PyData.int).map .dat) ∧ ∃ ix, Γ' = [some (.dat s.enc), some (.dat (rules rs)), some (.dat (.tuple [itup line, .int sg, .int mood])), some (.dat (.int por)), some (.dat (itup x.line)), some (.dat (.int x.sg)), some (.dat (.int x.mood)), some (.dat (.int x.left)), some (.ptr pd), some (.ptr pu), some (.dat (itup [front x.line, x.left, x.sg, por])), some (.dat ix), c, d] ∧
      ((ix = .none ∧ rs.find? (fits x.line x.sg x.left por x.mood) = none) ∨ ∃ (i : Nat) (r : Rw), ix = .int (i : Nat) ∧ rs[i]? = some r ∧ rs.find? (fits x.line x.sg x.left por x.mood) = some r ∧ fits x.line x.sg x.left por x.mood r = true)) ?_ ?_
    · refine s_asg (e_call (a_cons (e_var rfl (a_cons (e_var rfl (a_cons (e_var rfl (a_cons (e_call (a_cons (e_var rfl (a_cons (e_var rfl (a_cons (e_var rfl (a_nil ⟨x.line, x.sg, x.left, rfl, fun ds fl hf => a_nil ⟨rs, feas x.line x.sg x.left, front x.line, x.left, x.sg, por, x.mood, ds, rfl, fl, fun r hr => hf r.d (ro.all r hr).d, fun hn => ⟨rfl, _, rfl, .inl ⟨rfl, ?_⟩⟩, fun i r er hr hb => ⟨rfl, _, rfl, .inr ⟨i, r, rfl, er, ?_, hr⟩⟩⟩⟩))))))))))))))))
      · rw [List.find?_eq_none]
        intro r hr
        rw [show fits x.line x.sg x.left por x.mood r = false from hn r hr]
        decide
      · rw [List.find?_eq_some_iff_getElem]
        obtain ⟨hi, ei⟩ := List.getElem?_eq_some_iff.mp er
        refine ⟨hr, i, hi, ei, fun j hj => ?_⟩
        rw [show fits x.line x.sg x.left por x.mood _ = false from hb j _ hj (List.getElem?_eq_getElem (by omega))]
        rfl
    rintro Γ' Ω' ⟨rfl, ix, rfl, ⟨rfl, hn⟩ | ⟨i, r, rfl, er, hs, hp⟩⟩
    · have eX : X = x := by
        rw [hx]
        unfold K38.fill
        rw [hn]
      rw [eX]
      refine s_seq (s_if (t_test (e_op (e_var rfl (e_non (r_isN ⟨_, rfl, (fun _ => s_brk ⟨us, _, _, _, _, rfl, rfl, by omega⟩), nofun⟩))))))
    refine s_seq (s_if (t_test (e_op (e_var rfl (e_non (r_isN ⟨_, rfl, nofun, (fun _ => s_next ?_)⟩))))))
    have hfe := fits_feas hp
    have eX : X = if r.d = "go" then stepF x r else K38.fill rs por n (stepF x r) := by
      rw [hx]
      show (match rs.find? (fits x.line x.sg x.left por x.mood) with | none => x | some (r : Rw) => if r.d = "go" then stepF x r else K38.fill rs por n (stepF x r)) = _
      rw [hs]
    refine s_seq (s_drop (e_app (e_var rfl ⟨pu, rfl, ⟨_, put_same⟩, a_cons (e_var rfl (a_nil ⟨_, _, rfl, put_same, by rw [List.length_map, List.length_map]; omega, ?_⟩))⟩)))
    have eu : put (put (put Ω pd ((encD x.ds).map .dat)) pu ((us.map PyData.int).map .dat)) pu ((us.map PyData.int).map .dat ++ [.dat (.int (i : Nat))]) = put (put Ω pd ((encD x.ds).map .dat)) pu (((us ++ [(i : Int)]).map PyData.int).map .dat) := by
      rw [put_put, List.map_append, List.map_append]
      rfl
    rw [eu]
    have eix : atI (rs.map Rw.enc) ((i : Nat) : Int) = some r.enc := atI_nat' (by rw [List.getElem?_map, er]; rfl)
    have hd3 := seat3 (ro.all r (List.mem_of_getElem? er))
    obtain ⟨rm, rf, rl, rsg, ro', rd, ra⟩ := r
    refine s_seq (s_asg (e_op (e_op (e_var rfl (e_var rfl (r_ixT eix (e_int (r_ixT rfl ?_))))))))
    refine s_seq (s_asg (e_op (e_op (e_var rfl (e_var rfl (r_ixT eix (e_int (r_ixT rfl ?_))))))))
    rcases hd3 with hrd | hrd | hrd
    rotate_left
    rotate_left
    · obtain rfl : rd = "go" := hrd
      replace eX := eX.trans ((if_pos rfl).trans (if_pos rfl))
      rw [eX]
      exact s_seq (s_if (t_test (e_op (e_var rfl (e_str (r_eq rfl ⟨_, rfl, (fun _ => s_brk ⟨_, _, _, _, _, rfl, rfl, (by show x.ds.length ≤ 4; omega)⟩), (fun z => absurd (show eqD (.str "go") (.str "go") = false from z) (by decide))⟩))))))
    · obtain rfl : rd = "group" := hrd
      replace eX := eX.trans (if_neg (show ¬ ("group" : Str) = "go" by decide))
      obtain ⟨z, t, hl, hz⟩ := feas_group hfe
      have z1 := zx z (by rw [hl]; exact List.mem_cons_self ..)
      rw [hl]
      refine s_seq (s_if (t_test (e_op (e_var rfl (e_str (r_eq rfl ⟨_, rfl, (fun z => absurd (show eqD (.str "group") (.str "go") = true from z) (by decide)), (fun _ => s_next ?_)⟩))))))
      refine s_seq (s_asg (e_int ?_))
      refine s_seq (s_if (t_test (e_op (e_var rfl (e_str (r_eq rfl ⟨_, rfl, (fun _ => ?_), (fun z => absurd (show eqD (.str "group") (.str "group") = false from z) (by decide))⟩))))))
      refine s_seq (s_asg (e_op (e_var rfl (e_int (r_ixT (d := .int z) (atI_nat' (i := 0) rfl) ?_)))))
      refine s_asg (e_slT (e_var rfl ⟨_, rfl, o_some (e_int ⟨_, rfl, o_no ?_⟩)⟩))
      rw [cut1]
      refine s_seq (s_aug rfl (e_var rfl ⟨_, rfl, ?_⟩))
      refine s_drop (e_app (e_var rfl ⟨pd, rfl, ⟨_, by rw [put_ne ne.symm, put_same]⟩, a_cons (e_tupD (a_cons (e_var rfl (a_cons (e_var rfl (a_nil ⟨_, .cons (.cons .nil), rfl, a_nil ⟨_, _, rfl, by rw [put_ne ne.symm, put_same], by rw [List.length_map, List.length_map]; omega, ?_⟩⟩))))))⟩))
      refine ⟨n, Nat.lt_succ_self n, ⟨t, x.sg, ra, x.left - z, x.ds ++ [(("group" : Str), z)]⟩, us ++ [(i : Int)], _, _, _, _, ?_, by show x.left - z < n; omega, by show 0 ≤ x.left - z; omega, fun y hy => zx y (by rw [hl]; exact List.mem_cons_of_mem _ hy), by show ((x.ds ++ [(("group" : Str), z)]).length : Int) + (x.left - z) ≤ 4; rw [List.length_append]; show ((x.ds.length + 1 : Nat) : Int) + _ ≤ 4; omega, by show (us ++ [(i : Int)]).length ≤ (x.ds ++ [(("group" : Str), z)]).length; rw [List.length_append, List.length_append]; show us.length + 1 ≤ x.ds.length + 1; omega, rfl, ?_⟩
      · rw [eX]
        unfold stepF
        rw [hl]
        rfl
      · rw [put_comm ne, put_put]
        show put (put Ω pd ((encD x.ds).map .dat ++ [.dat (.tuple [.str "group", .int z])])) pu _ = put (put Ω pd ((encD (x.ds ++ [(("group" : Str), z)])).map .dat)) pu _
        rw [show (encD (x.ds ++ [(("group" : Str), z)])).map Av.dat = (encD x.ds).map Av.dat ++ [.dat (.tuple [.str "group", .int z])] by rw [show encD (x.ds ++ [(("group" : Str), z)]) = encD x.ds ++ [.tuple [.str "group", .int z]] from List.map_append, List.map_append]; rfl]
    · obtain rfl : rd = "single" := hrd
      replace eX := eX.trans (if_neg (show ¬ ("single" : Str) = "go" by decide))
      obtain ⟨hg, hz⟩ := feas_single hfe
      refine s_seq (s_if (t_test (e_op (e_var rfl (e_str (r_eq rfl ⟨_, rfl, (fun z => absurd (show eqD (.str "single") (.str "go") = true from z) (by decide)), (fun _ => s_next ?_)⟩))))))
      refine s_seq (s_asg (e_int ?_))
      refine s_seq (s_if (t_test (e_op (e_var rfl (e_str (r_eq rfl ⟨_, rfl, (fun z => absurd (show eqD (.str "single") (.str "group") = true from z) (by decide)), (fun _ => ?_)⟩))))))
      refine s_aug rfl (e_int ⟨_, rfl, ?_⟩)
      refine s_seq (s_aug rfl (e_var rfl ⟨_, rfl, ?_⟩))
      refine s_drop (e_app (e_var rfl ⟨pd, rfl, ⟨_, by rw [put_ne ne.symm, put_same]⟩, a_cons (e_tupD (a_cons (e_var rfl (a_cons (e_var rfl (a_nil ⟨_, .cons (.cons .nil), rfl, a_nil ⟨_, _, rfl, by rw [put_ne ne.symm, put_same], by rw [List.length_map, List.length_map]; omega, ?_⟩⟩))))))⟩))
      refine ⟨n, Nat.lt_succ_self n, ⟨x.line, x.sg - 1, ra, x.left - 1, x.ds ++ [(("single" : Str), 1)]⟩, us ++ [(i : Int)], _, _, _, _, eX, by show x.left - 1 < n; omega, by show 0 ≤ x.left - 1; omega, zx, by show ((x.ds ++ [(("single" : Str), 1)]).length : Int) + (x.left - 1) ≤ 4; rw [List.length_append]; show ((x.ds.length + 1 : Nat) : Int) + _ ≤ 4; omega, by show (us ++ [(i : Int)]).length ≤ (x.ds ++ [(("single" : Str), 1)]).length; rw [List.length_append, List.length_append]; show us.length + 1 ≤ x.ds.length + 1; omega, rfl, ?_⟩
      rw [put_comm ne, put_put]
      show put (put Ω pd ((encD x.ds).map .dat ++ [.dat (.tuple [.str "single", .int 1])])) pu _ = put (put Ω pd ((encD (x.ds ++ [(("single" : Str), 1)])).map .dat)) pu _
      rw [show (encD (x.ds ++ [(("single" : Str), (1 : Int))])).map Av.dat = (encD x.ds).map Av.dat ++ [.dat (.tuple [.str "single", .int 1])] by rw [show encD (x.ds ++ [(("single" : Str), (1 : Int))]) = encD x.ds ++ [.tuple [.str "single", .int 1]] from List.map_append, List.map_append]; rfl]
  rintro Γ' Ω' ⟨us, a, b, c, d, rfl, rfl, ld⟩
  refine s_frz 9 rfl put_same ?_
  rw [del_put (by rw [put_ne ne]; exact nu')]
  refine s_ret (e_tupD (a_cons (e_tupD (a_cons (e_var rfl (a_cons (e_var rfl (a_cons (e_var rfl (a_nil ⟨_, .cons (.cons (.cons .nil)), rfl, ?_⟩))))))))))
  refine a_cons (e_then (e_var rfl (r_tupP put_same ?_)))
  rw [del_put nd]
  refine a_cons (EW.mono (P := fun a Ω' => a = .dat (.int (emptyF X)) ∧ Ω' = Ω) ?_ ?_)
  · match hxl : X.line with
    | [] =>
      refine e_if (t_or (t_truT (e_var rfl ⟨_, rfl, nofun, fun _ => t_test (e_op (e_var rfl (e_int (r_I0b ⟨_, rfl, (fun z => e_var rfl ⟨?_, rfl⟩), (fun z => e_int ⟨?_, rfl⟩)⟩))))⟩)))
      · unfold emptyF
        rw [hxl, z]
        rfl
      · unfold emptyF
        rw [hxl, z]
        rfl
    | z :: t =>
      refine e_if (t_or (t_truT (e_var rfl ⟨_, rfl, (fun _ => ⟨(fun _ => e_var rfl ⟨?_, rfl⟩), nofun⟩), nofun⟩)))
      unfold emptyF
      rw [hxl]
      rfl
  rintro _ _ ⟨rfl, rfl⟩
  exact a_cons (e_var rfl (a_nil ⟨_, .cons (.cons (.cons (.cons .nil))), rfl, h us⟩))
end
end K38

set_option Elab.async false
set_option linter.all false
set_option maxRecDepth 100000
set_option maxHeartbeats 1000000
namespace K38
open PySem PySem.Spec PyProof.Rows L2 Dat LamX Clo
local macro_rules | `(tactic| trivial) => `(tactic| (first
  | (with_reducible refine s_seq ?_)
  | (with_reducible refine s_asg ?_)
  | (with_reducible refine s_ret ?_)
  | (with_reducible refine s_drop ?_)
  | (with_reducible refine s_next ?_)
  | (with_reducible refine s_retN ?_)
  | (with_reducible refine s_brk ?_)
  | (with_reducible refine s_cont ?_)
  | (with_reducible refine s_if ?_)
  | (with_reducible refine e_int ?_)
  | (with_reducible refine e_str ?_)
  | (with_reducible refine e_bl ?_)
  | (with_reducible refine e_non ?_)
  | (with_reducible refine e_ty ?_)
  | (with_reducible refine e_tupD ?_)
  | (with_reducible refine e_lstD ?_)
  | (with_reducible refine e_op ?_)
  | (with_reducible refine e_un ?_)
  | (with_reducible refine e_then ?_)
  | (with_reducible refine e_cb ?_)
  | (with_reducible refine e_call ?_)
  | (with_reducible refine e_if ?_)
  | (with_reducible refine e_chain ?_)
  | (with_reducible refine e_andV ?_)
  | (with_reducible refine e_orV ?_)
  | (with_reducible refine e_notV ?_)
  | (with_reducible refine a_cons ?_)
  | (with_reducible refine a_nil ?_)
  | (with_reducible refine t_test ?_)
  | (with_reducible refine t_B ?_)
  | (with_reducible refine t_not ?_)
  | (with_reducible refine t_and ?_)
  | (with_reducible refine t_or ?_)
  | (with_reducible refine r_I0i ?_)
  | (with_reducible refine r_I0b ?_)
  | (with_reducible refine r_neg ?_)
  | (with_reducible refine r_isN ?_)
  | (with_reducible refine r_notN ?_)
  | (with_reducible refine c_lenT ?_)
  | (with_reducible refine c_lenL ?_)
  | (with_reducible refine c_intI ?_)
  | (with_reducible refine c_intB ?_)
  | (with_reducible refine c_max2 ?_)
  | (with_reducible refine c_min2 ?_)
  | (with_reducible refine c_abs ?_)
  | (with_reducible refine r_tupL ?_)
  | (with_reducible refine r_tupT ?_)
  | (with_reducible refine c_allM ?_)
  | ((with_reducible apply e_var); (exact rfl))
  | ((with_reducible refine r_eq ?_ ?_); (exact rfl))
  | ((with_reducible refine r_ne ?_ ?_); (exact rfl))
  | (with_reducible refine c_isi kit_int ?_)
  | (with_reducible refine c_isi kit_bool ?_)
  | (with_reducible refine c_isi kit_tuple ?_)
  | (with_reducible refine c_isi kit_list ?_)
  | (with_reducible refine c_isi kit_str ?_)
  | ((with_reducible apply r_ixT); (exact rfl))
  | ((with_reducible apply dats_pack); (iterate 40 (first | exact Dats.nil | apply Dats.cons | skip)); (exact rfl))
  | (with_reducible refine s_asgG ?_) | (with_reducible refine g_name ?_) | ((with_reducible refine g_tup ?_ ?_); (exact rfl)) | (refine gs_nil ?_) | (refine gs_cons ?_) | (with_reducible refine ⟨rfl, ?_⟩)
  | (refine ⟨_, rfl, ?_⟩) | (refine ⟨_, _, rfl, ?_⟩) | (refine ⟨_, _, _, rfl, ?_⟩) | (with_reducible refine ⟨fun _ => ?_, fun _ => ?_⟩) | fail))
/-! ### the cellar -/
abbrev Tub := Int × Int
abbrev encTub (t : Tub) : PyData := .tuple [.int t.1, .int t.2]
abbrev encT (ts : List Tub) : PyData := .tuple (ts.map encTub)
def psum (ts : List Tub) : Int := (ts.map (·.2)).sum
def age0 : List Tub → Int
  | [] => 9
  | t :: _ => t.1
def tfeas (ts : List Tub) (w : Str) : Bool := if w = "rest" then true else decide (ts.length < 2)
def kindOf (s : Shop) (w : Str) : Int := if w = "small" then s.kinds.headD 0 else s.kinds.getLastD 0
structure Tl where
  ts : List Tub
  mood : Int
  op : List Int
def stepT (s : Shop) (x : Tl) (r : Rw) : Tl := if r.d = "rest" then { x with mood := r.a } else ⟨x.ts ++ [(0, kindOf s r.d)], r.a, x.op ++ [kindOf s r.d]⟩
def tfits (ts : List Tub) (asked wait mood : Int) (r : Rw) : Bool := fitG (tfeas ts) asked (psum ts) (age0 ts) wait mood r
def openT (s : Shop) (rs : List Rw) (asked wait : Int) : Nat → Tl → Tl
  | 0, x => x
  | n + 1, x => match rs.find? (tfits x.ts asked wait x.mood) with
    | none => x
    | some r => if r.d = "rest" then stepT s x r else openT s rs asked wait n (stepT s x r)
def eatM (p l : Int) : Int := if l < p then l else p
def eats : Int → List Tub → List Int
  | _, [] => []
  | l, t :: ts => eatM t.2 l :: eats (l - eatM t.2 l) ts
theorem eats_len : ∀ {ts : List Tub} {l : Int}, (eats l ts).length = ts.length
  | [], _ => rfl
  | t :: ts, l => by
    show (eats _ ts).length + 1 = ts.length + 1
    rw [eats_len]
def older (asked : Int) (ts : List Tub) : List Tub := ((ts.zip (eats asked ts)).filter fun z => decide (z.1.2 > z.2)).map fun z => (z.1.1 + 1, z.1.2 - z.2)
def leftT (s : Shop) (asked : Int) (ts : List Tub) : List Tub := (older asked ts).filter fun t => decide (t.1 < s.life)
def meltT (s : Shop) (asked : Int) (ts : List Tub) : Int := (((older asked ts).filter fun t => decide (t.1 = s.life)).map (·.2)).sum
def lackT (asked : Int) (ts : List Tub) : Int := asked - (eats asked ts).sum
theorem zipA_map {α β : Type} (f : α → PyData) (g : β → PyData) (xs : List α) (ys : List β) (hl : xs.length = ys.length) : zipA (xs.map f) (ys.map g) = (xs.zip ys).map fun z => .dat (.tuple [f z.1, g z.2]) := by
  apply List.ext_getElem
  · simp [zipA, hl]
  · intro i h1 h2
    simp only [zipA, List.length_map, List.length_range] at h1
    have h3 : i < ys.length := by omega
    simp only [zipA, List.getElem_map, List.getElem_range, List.getElem_zip, List.getD_eq_getElem?_getD, List.getElem?_map, List.getElem?_eq_getElem h1, List.getElem?_eq_getElem h3, Option.map_some, Option.getD_some]
theorem tub3 {r : Rw} (h : r.Ok tubWs) : r.d = "small" ∨ r.d = "great" ∨ r.d = "rest" := by
  have := h.d
  simp only [List.mem_cons, List.not_mem_nil, or_false] at this
  exact this
theorem sum_snd (ts : List Tub) : (ts.map fun t => PyData.int t.2) = (ts.map (·.2)).map PyData.int := by rw [List.map_map]; rfl
section
variable {P : Program} {w : World} {K : PySem.W.Frag} [Tb K] {mg : Str → Option Value} {base : Heap}
theorem c_sumP {Ω : AH} {P : Av → AH → Prop} {p : Addr} {ns : List Int} (o : Ω p = some ((ns.map PyData.int).map .dat)) (h : P (.dat (.int ns.sum)) Ω) : RCW K (rSum K) [.ptr p] Ω P := fun F H xs Q k hx q => by
  cases hx with | cons hx hn =>
    cases hn
    cases hx
    obtain ⟨ys, h1, h2⟩ := k.st p _ o
    have e := h2.dats.ints
    subst e
    exact ⟨p, ns, rfl, SqL.of h1, q _ _ _ _ h k (.dat (.int _))⟩
abbrev spPo : ASp := fun as Ω P => ∃ ts : List Tub, as = [.dat (encT ts)] ∧ ts.length ≤ 100 ∧ P (.dat (.int (psum ts))) Ω
theorem ok_po (T : Top K mg) : FnOk P w K mg base CX0 1 T.f_portions_open T.d_portions_open ["tubs"] (spA K spPo) := by
  refine fnA_ok T.D_portions_open.F sc_portions_open (fun as Ω P ⟨ts, e, _⟩ => by subst e; rfl) (fun cdv A outer s H E hr => ?_)
  refine ⟨_, (pss_one (ps_ret (pe_callB (Dat.sumQ (K := K) rfl rfl) rfl T.b_sum bt_sum (pa_cons (pe_lc (own := [("_", 2), ("portions", 1)]) (g := (gTup K 2 (gCons (gName 2) (gCons (gName 1) gNil)))) (tt := tYes) rfl sc_portions_open.nd (Dat.piT (K := K) rfl (pv 0)) (blkOk_by (N := N_portions_open) (sc := defScope s_portions_open) (by decide +kernel)) (fun _ _ _ _ _ => (Dat.pgT (K := K) (n := 2) rfl rfl (pgs_cons (pg_name (i := 2) sc_portions_open.nd rfl (Or.inl rfl)) (pgs_cons (pg_name (i := 1) sc_portions_open.nd rfl (Or.inl rfl)) pgs_nil)))) (fun _ _ _ _ _ => pts_nil) (fun _ _ _ _ _ => (pv 1))) pa_nil)))), ?_⟩
  rintro as Ω P ⟨ts, rfl, hl, h⟩
  refine s_ret (e_cb (a_cons (e_lcM ts (fun t => .dat (encTub t)) (fun t => .int t.2) (gn_tup (gns_cons (gn_name (by decide)) (gns_cons (gn_name (by decide)) gns_nil))) (by omega) ?_)))
  refine i_tup (e_var rfl ⟨_, rfl, (by rw [List.map_map]; rfl), fun t Ω' _ _ => g_tup rfl (gs_cons (g_name ⟨rfl, gs_cons (g_name ⟨rfl, gs_nil ⟨rfl, e_var rfl ⟨rfl, rfl⟩⟩⟩)⟩)), ?_⟩)
  rw [sum_snd]
  exact a_nil (c_sum h)
abbrev spTD : ASp := fun as Ω P => ∃ ts : List Tub, as = [.dat (encT ts)] ∧ ∀ ds : List PyData, ds.all canFlat = true → (∀ w ∈ tubWs, (ds.any fun e => PyData.eqv e (.str w)) = tfeas ts w) → P (.dat (.tuple ds)) Ω
theorem ok_td (T : Top K mg) : FnOk P w K mg base CX0 1 T.f_tub_deeds T.d_tub_deeds ["tubs"] (spA K spTD) := by
  refine fnA_ok T.D_tub_deeds.F sc_tub_deeds (fun as Ω P ⟨ts, e, _⟩ => by subst e; rfl) (fun cdv A outer s H E hr => ?_)
  refine ⟨_, (pss_one (ps_ret (pe_ifExp (pt_cmpR op_lt (pe_callB (Dat.lenQ (K := K) rfl) rfl T.b_len bt_len (pa_cons (pv 0) pa_nil)) (pe_glob (v := .int 2) rfl T.c_MOST_TUBS ⟨_, rfl⟩) (nomark _)) (pe_tup (pa_cons pe_str (pa_cons pe_str (pa_cons pe_str pa_nil)))) (pe_tup (pa_cons pe_str pa_nil))))), ?_⟩
  rintro as Ω P ⟨ts, rfl, h⟩
  refine s_ret (e_if (t_test (e_op (e_cb (a_cons (e_var rfl (a_nil (c_lenT (e_int (r_I0b ⟨_, rfl, (fun z => ?_), (fun z => ?_)⟩))))))))))
  · have z' := of_decide_eq_true z
    rw [List.length_map] at z'
    have hf : decide (ts.length < 2) = true := decide_eq_true (by omega)
    refine e_tupD (a_cons (e_str (a_cons (e_str (a_cons (e_str (a_nil ⟨_, .cons (.cons (.cons .nil)), rfl, h _ rfl fun w hw => ?_⟩)))))))
    simp only [List.mem_cons, List.not_mem_nil, or_false] at hw
    rcases hw with rfl | rfl | rfl
    · rw [show tfeas ts "small" = decide (ts.length < 2) from if_neg (by decide), hf]
      decide
    · rw [show tfeas ts "great" = decide (ts.length < 2) from if_neg (by decide), hf]
      decide
    · rw [show tfeas ts "rest" = true from if_pos rfl]
      decide
  · have z' := of_decide_eq_false z
    rw [List.length_map] at z'
    have hf : decide (ts.length < 2) = false := decide_eq_false (by omega)
    refine e_tupD (a_cons (e_str (a_nil ⟨_, .cons .nil, rfl, h _ rfl fun w hw => ?_⟩)))
    simp only [List.mem_cons, List.not_mem_nil, or_false] at hw
    rcases hw with rfl | rfl | rfl
    · rw [show tfeas ts "small" = decide (ts.length < 2) from if_neg (by decide), hf]
      decide
    · rw [show tfeas ts "great" = decide (ts.length < 2) from if_neg (by decide), hf]
      decide
    · rw [show tfeas ts "rest" = true from if_pos rfl]
      decide
abbrev spWT : ASp := fun as Ω P => ∃ (s : Shop) (ts : List Tub) (w : Str), as = [.dat s.enc, .dat (encT ts), .dat (.str w)] ∧ s.Ok ∧ ts.length ≤ 100 ∧ (w = "small" ∨ w = "great") ∧ P (.dat (encT (ts ++ [(0, kindOf s w)]))) Ω
theorem kinds_cases {s : Shop} (so : s.Ok) : (∃ a, s.kinds = [a]) ∨ ∃ a b, s.kinds = [a, b] := by
  have h1 := so.k1
  have h2 := so.k2
  match s.kinds, h1, h2 with
  | [a], _, _ => exact .inl ⟨a, rfl⟩
  | [a, b], _, _ => exact .inr ⟨a, b, rfl⟩
  | _ :: _ :: _ :: _, _, h => exact absurd h (by simp)
theorem encT_app (ts : List Tub) (k : Int) : encT (ts ++ [(0, k)]) = .tuple (ts.map encTub ++ [.tuple [.int 0, .int k]]) := congrArg PyData.tuple List.map_append
theorem ok_wt (T : Top K mg) : FnOk P w K mg base CX0 1 T.f_with_tub T.d_with_tub ["setup", "tubs", "deed"] (spA K spWT) := by
  refine fnA_ok T.D_with_tub.F sc_with_tub (fun as Ω P ⟨s, ts, w, e, _⟩ => by subst e; rfl) (fun cdv A outer s H E hr => ?_)
  refine ⟨_, (pss_one (ps_ret (pe_op (Dat.catT (K := K) rfl) (pv 1) (pe_tup (pa_cons (pe_tup (pa_cons pe_int (pa_cons (pe_ifExp (pt_cmpR op_eq (pv 2) pe_str (nomark _)) (pe_ix (Dat.ixT (K := K) rfl) (pe_ix (Dat.ixT (K := K) rfl) (pv 0) pe_int (fun _ _ => rfl)) pe_int (fun _ _ => rfl)) (pe_ix (Dat.ixT (K := K) rfl) (pe_ix (Dat.ixT (K := K) rfl) (pv 0) pe_int (fun _ _ => rfl)) (pe_un un_neg pe_int) (fun _ _ => rfl))) pa_nil))) pa_nil))))), ?_⟩
  rintro as Ω P ⟨s, ts, w, rfl, so, hl, hw, h⟩
  rw [encT_app] at h
  rcases hw with rfl | rfl
  · have e : kindOf s "small" = s.kinds.headD 0 := if_pos rfl
    rw [e] at h
    obtain ⟨n, zs, r1, r2, c1, c2, ks, lf, pr⟩ := s
    rcases kinds_cases so with ⟨a, hk⟩ | ⟨a, b, hk⟩
    · obtain rfl : ks = [a] := hk
      exact s_ret (e_op (e_var rfl (e_tupD (a_cons (e_tupD (a_cons (e_int (a_cons (e_if (t_test (e_op (e_var rfl (e_str (r_eq rfl ⟨_, rfl, (fun _ => e_op (e_op (e_var rfl (e_int (r_ixT rfl (e_int (r_ixT rfl (a_nil ⟨_, .cons (.cons .nil), rfl, a_nil ⟨_, .cons .nil, rfl, r_catT (by rw [List.length_map]; show _ + 1 ≤ _; omega) h⟩⟩)))))))), (fun z => absurd z (by decide))⟩))))))))))))))
    · obtain rfl : ks = [a, b] := hk
      exact s_ret (e_op (e_var rfl (e_tupD (a_cons (e_tupD (a_cons (e_int (a_cons (e_if (t_test (e_op (e_var rfl (e_str (r_eq rfl ⟨_, rfl, (fun _ => e_op (e_op (e_var rfl (e_int (r_ixT rfl (e_int (r_ixT rfl (a_nil ⟨_, .cons (.cons .nil), rfl, a_nil ⟨_, .cons .nil, rfl, r_catT (by rw [List.length_map]; show _ + 1 ≤ _; omega) h⟩⟩)))))))), (fun z => absurd z (by decide))⟩))))))))))))))
  · have e : kindOf s "great" = s.kinds.getLastD 0 := if_neg (by decide)
    rw [e] at h
    obtain ⟨n, zs, r1, r2, c1, c2, ks, lf, pr⟩ := s
    rcases kinds_cases so with ⟨a, hk⟩ | ⟨a, b, hk⟩
    · obtain rfl : ks = [a] := hk
      exact s_ret (e_op (e_var rfl (e_tupD (a_cons (e_tupD (a_cons (e_int (a_cons (e_if (t_test (e_op (e_var rfl (e_str (r_eq rfl ⟨_, rfl, (fun z => absurd z (by decide)), (fun _ => e_op (e_op (e_var rfl (e_int (r_ixT rfl (e_un (e_int (r_neg (r_ixT rfl (a_nil ⟨_, .cons (.cons .nil), rfl, a_nil ⟨_, .cons .nil, rfl, r_catT (by rw [List.length_map]; show _ + 1 ≤ _; omega) h⟩⟩))))))))))⟩))))))))))))))
    · obtain rfl : ks = [a, b] := hk
      exact s_ret (e_op (e_var rfl (e_tupD (a_cons (e_tupD (a_cons (e_int (a_cons (e_if (t_test (e_op (e_var rfl (e_str (r_eq rfl ⟨_, rfl, (fun z => absurd z (by decide)), (fun _ => e_op (e_op (e_var rfl (e_int (r_ixT rfl (e_un (e_int (r_neg (r_ixT rfl (a_nil ⟨_, .cons (.cons .nil), rfl, a_nil ⟨_, .cons .nil, rfl, r_catT (by rw [List.length_map]; show _ + 1 ≤ _; omega) h⟩⟩))))))))))⟩))))))))))))))
end
end K38

set_option Elab.async false
set_option linter.all false
set_option maxRecDepth 100000
set_option maxHeartbeats 1000000
namespace K38
open PySem PySem.Spec PyProof.Rows L2 Dat LamX Clo
local macro_rules | `(tactic| trivial) => `(tactic| (first
  | (with_reducible refine s_seq ?_)
  | (with_reducible refine s_asg ?_)
  | (with_reducible refine s_ret ?_)
  | (with_reducible refine s_drop ?_)
  | (with_reducible refine s_next ?_)
  | (with_reducible refine s_retN ?_)
  | (with_reducible refine s_brk ?_)
  | (with_reducible refine s_cont ?_)
  | (with_reducible refine s_if ?_)
  | (with_reducible refine e_int ?_)
  | (with_reducible refine e_str ?_)
  | (with_reducible refine e_bl ?_)
  | (with_reducible refine e_non ?_)
  | (with_reducible refine e_ty ?_)
  | (with_reducible refine e_tupD ?_)
  | (with_reducible refine e_lstD ?_)
  | (with_reducible refine e_op ?_)
  | (with_reducible refine e_un ?_)
  | (with_reducible refine e_then ?_)
  | (with_reducible refine e_cb ?_)
  | (with_reducible refine e_call ?_)
  | (with_reducible refine e_if ?_)
  | (with_reducible refine e_chain ?_)
  | (with_reducible refine e_andV ?_)
  | (with_reducible refine e_orV ?_)
  | (with_reducible refine e_notV ?_)
  | (with_reducible refine a_cons ?_)
  | (with_reducible refine a_nil ?_)
  | (with_reducible refine t_test ?_)
  | (with_reducible refine t_B ?_)
  | (with_reducible refine t_not ?_)
  | (with_reducible refine t_and ?_)
  | (with_reducible refine t_or ?_)
  | (with_reducible refine r_I0i ?_)
  | (with_reducible refine r_I0b ?_)
  | (with_reducible refine r_neg ?_)
  | (with_reducible refine r_isN ?_)
  | (with_reducible refine r_notN ?_)
  | (with_reducible refine c_lenT ?_)
  | (with_reducible refine c_lenL ?_)
  | (with_reducible refine c_intI ?_)
  | (with_reducible refine c_intB ?_)
  | (with_reducible refine c_max2 ?_)
  | (with_reducible refine c_min2 ?_)
  | (with_reducible refine c_abs ?_)
  | (with_reducible refine r_tupL ?_)
  | (with_reducible refine r_tupT ?_)
  | (with_reducible refine c_allM ?_)
  | ((with_reducible apply e_var); (exact rfl))
  | ((with_reducible refine r_eq ?_ ?_); (exact rfl))
  | ((with_reducible refine r_ne ?_ ?_); (exact rfl))
  | (with_reducible refine c_isi kit_int ?_)
  | (with_reducible refine c_isi kit_bool ?_)
  | (with_reducible refine c_isi kit_tuple ?_)
  | (with_reducible refine c_isi kit_list ?_)
  | (with_reducible refine c_isi kit_str ?_)
  | ((with_reducible apply r_ixT); (exact rfl))
  | ((with_reducible apply dats_pack); (iterate 40 (first | exact Dats.nil | apply Dats.cons | skip)); (exact rfl))
  | (with_reducible refine s_asgG ?_) | (with_reducible refine g_name ?_) | ((with_reducible refine g_tup ?_ ?_); (exact rfl)) | (refine gs_nil ?_) | (refine gs_cons ?_) | (with_reducible refine ⟨rfl, ?_⟩)
  | (refine ⟨_, rfl, ?_⟩) | (refine ⟨_, _, rfl, ?_⟩) | (refine ⟨_, _, _, rfl, ?_⟩) | (with_reducible refine ⟨fun _ => ?_, fun _ => ?_⟩) | fail))
theorem atI_last {α : Type} {xs : List α} {x : α} : atI (xs ++ [x]) (-1) = some x := by
  unfold atI ixN
  rw [if_neg (by decide), List.length_append]
  show (if -(((xs.length + 1 : Nat)) : Int) ≤ -1 then some ((-1 : Int) + ((xs.length + 1 : Nat) : Int)).toNat else none).bind _ = _
  rw [if_pos (by omega), show ((-1 : Int) + ((xs.length + 1 : Nat) : Int)).toNat = xs.length by omega]
  show (xs ++ [x])[xs.length]? = some x
  rw [List.getElem?_append_right (Nat.le_refl _), Nat.sub_self]
  rfl
section
variable {P : Program} {w : World} {K : PySem.W.Frag} [Tb K] {mg : Str → Option Value} {base : Heap}
abbrev tlE (X : Tl) : PyData := .tuple [encT X.ts, .int X.mood]
abbrev spOpen : ASp := fun as Ω P => ∃ (s : Shop) (rs : List Rw) (ts : List Tub) (mood asked wait : Int), as = [.dat s.enc, .dat (rules rs), .dat (.tuple [encT ts, .int mood]), .dat (.int asked), .dat (.int wait)] ∧ s.Ok ∧ RsOk tubWs rs ∧ ts.length ≤ 2 ∧
  ∀ us : List Int, P (.dat (.tuple [tlE (openT s rs asked wait 9 ⟨ts, mood, []⟩), itup (openT s rs asked wait 9 ⟨ts, mood, []⟩).op, .list (us.map PyData.int)])) Ω
theorem ok_open (T : Top K mg) : FnOk P w K mg base CX0 3 T.f_open_tubs T.d_open_tubs ["setup", "rule", "standing", "asked", "waiting"] (spA K spOpen) := by
  have G_fitting_row : FnOk P w K mg base CX0 2 T.f_fitting_row T.d_fitting_row ["rule", "mood", "looks", "deeds"] (spA K spFit) := ok_fit T
  have G_tub_deeds : FnOk P w K mg base CX0 1 T.f_tub_deeds T.d_tub_deeds ["tubs"] (spA K spTD) := ok_td T
  have G_portions_open : FnOk P w K mg base CX0 1 T.f_portions_open T.d_portions_open ["tubs"] (spA K spPo) := ok_po T
  have G_with_tub : FnOk P w K mg base CX0 1 T.f_with_tub T.d_with_tub ["setup", "tubs", "deed"] (spA K spWT) := ok_wt T
  refine fnA_ok T.D_open_tubs.F sc_open_tubs (fun as Ω P ⟨s, rs, ts, mood, asked, wait, e, _⟩ => by subst e; rfl) (fun cdv A outer s H E hr => ?_)
  refine ⟨_, (pss_cons (ps_asg (pv 2) (Dat.pgT (K := K) (n := 2) rfl rfl (pgs_cons (pg_name (i := 5) sc_open_tubs.nd rfl (.inl rfl)) (pgs_cons (pg_name (i := 6) sc_open_tubs.nd rfl (.inl rfl)) pgs_nil))))
    (pss_cons (ps_set (i := 7) sc_open_tubs.nd rfl (.inl rfl) (pe_lst pa_nil))
    (pss_cons (ps_set (i := 8) sc_open_tubs.nd rfl (.inl rfl) (pe_lst pa_nil))
    (pss_cons (ps_while PassesOwn.never (pt_val pe_bl)
      (pss_cons (ps_set (i := 9) sc_open_tubs.nd rfl (.inl rfl) (pe_tup (pa_cons (pv 3) (pa_cons (pe_call G_portions_open (hr.mono (by omega)) rfl T.D_portions_open.g T.D_portions_open.F.kp T.D_portions_open.b .nil pass0 (pa_cons (pv 5) pa_nil)) (pa_cons (pe_ifExp (Dat.truQ (K := K) rfl (pv 5)) (pe_ix (Dat.ixT (K := K) rfl) (pe_ix (Dat.ixT (K := K) rfl) (pv 5) pe_int (fun _ _ => rfl)) pe_int (fun _ _ => rfl)) (pe_glob (v := .int 9) rfl T.c_NO_AGE ⟨_, rfl⟩)) (pa_cons (pv 4) pa_nil))))))
      (pss_cons (ps_set (i := 10) sc_open_tubs.nd rfl (.inl rfl) (pe_call G_fitting_row (hr.mono (by omega)) rfl T.D_fitting_row.g T.D_fitting_row.F.kp T.D_fitting_row.b .nil pass0 (pa_cons (pv 1) (pa_cons (pv 6) (pa_cons (pv 9) (pa_cons (pe_call G_tub_deeds (hr.mono (by omega)) rfl T.D_tub_deeds.g T.D_tub_deeds.F.kp T.D_tub_deeds.b .nil pass0 (pa_cons (pv 5) pa_nil)) pa_nil))))))
      (pss_cons (ps_if (pt_cmpR Dat.op_isNo (pv 10) pe_non (nomark _))
        (pss_one ps_break)
        pss_nil)
      (pss_cons (ps_expr (Dat.appQ (K := K) rfl (pv 8) (pa_cons (pv 10) pa_nil)))
      (pss_cons (ps_set (i := 6) sc_open_tubs.nd rfl (.inl rfl) (pe_ix (Dat.ixT (K := K) rfl) (pe_ix (Dat.ixT (K := K) rfl) (pv 1) (pv 10) (fun _ _ => rfl)) pe_int (fun _ _ => rfl)))
      (pss_cons (ps_set (i := 11) sc_open_tubs.nd rfl (.inl rfl) (pe_ix (Dat.ixT (K := K) rfl) (pe_ix (Dat.ixT (K := K) rfl) (pv 1) (pv 10) (fun _ _ => rfl)) pe_int (fun _ _ => rfl)))
      (pss_cons (ps_if (pt_cmpR op_eq (pv 11) pe_str (nomark _))
        (pss_one ps_break)
        pss_nil)
      (pss_cons (ps_set (i := 5) sc_open_tubs.nd rfl (.inl rfl) (pe_call G_with_tub (hr.mono (by omega)) rfl T.D_with_tub.g T.D_with_tub.F.kp T.D_with_tub.b .nil pass0 (pa_cons (pv 0) (pa_cons (pv 5) (pa_cons (pv 11) pa_nil)))))
      (pss_one (ps_expr (Dat.appQ (K := K) rfl (pv 7) (pa_cons (pe_ix (Dat.ixT (K := K) rfl) (pe_ix (Dat.ixT (K := K) rfl) (pv 5) (pe_un un_neg pe_int) (fun _ _ => rfl)) pe_int (fun _ _ => rfl)) pa_nil)))))))))))))
    (pss_one (ps_ret (pe_tup (pa_cons (pe_tup (pa_cons (pv 5) (pa_cons (pv 6) pa_nil))) (pa_cons (Dat.pe_tupleK (K := K) rfl rfl T.b_tuple (pv 7)) (pa_cons (pv 8) pa_nil)))))))))), ?_⟩
  rintro as Ω P ⟨s, rs, ts, mood, asked, wait, rfl, so, ro, tl, h⟩
  refine s_seq (s_asgG (e_var rfl (g_tup rfl (gs_cons (g_name ⟨rfl, gs_cons (g_name ⟨rfl, gs_nil ?_⟩)⟩)))))
  refine s_seq (s_asg (e_lstP (a_nil ⟨by simp, fun pd nd => ?_⟩)))
  refine s_seq (s_asg (e_lstP (a_nil ⟨by simp, fun pu nu => ?_⟩)))
  have ne : pu ≠ pd := fun e => by rw [e, put_same] at nu; cases nu
  have nu' : Ω pu = none := by rw [put_ne ne] at nu; exact nu
  obtain ⟨X, hX⟩ : ∃ X, X = openT s rs asked wait 9 ⟨ts, mood, []⟩ := ⟨_, rfl⟩
  rw [← hX] at h
  refine s_seqM (fun Γ' Ω' => ∃ (us : List Int) (a b c : Option Av), Γ' = [some (.dat s.enc), some (.dat (rules rs)), some (.dat (.tuple [encT ts, .int mood])), some (.dat (.int asked)), some (.dat (.int wait)), some (.dat (encT X.ts)), some (.dat (.int X.mood)), some (.ptr pd), some (.ptr pu), a, b, c] ∧
    Ω' = put (put Ω pd ((X.op.map PyData.int).map .dat)) pu ((us.map PyData.int).map .dat)) ?_ ?_
  · refine s_while (fun m Γ' Ω' => ∃ (x : Tl) (us : List Int) (a b c : Option Av), X = openT s rs asked wait m x ∧ 2 < m + x.ts.length ∧ x.ts.length ≤ 2 ∧ x.op.length ≤ x.ts.length ∧ us.length ≤ x.op.length ∧
      Γ' = [some (.dat s.enc), some (.dat (rules rs)), some (.dat (.tuple [encT ts, .int mood])), some (.dat (.int asked)), some (.dat (.int wait)), some (.dat (encT x.ts)), some (.dat (.int x.mood)), some (.ptr pd), some (.ptr pu), a, b, c] ∧
      Ω' = put (put Ω pd ((x.op.map PyData.int).map .dat)) pu ((us.map PyData.int).map .dat)) 9 ⟨⟨ts, mood, []⟩, [], _, _, _, hX, by omega, tl, Nat.zero_le _, Nat.le_refl _, rfl, rfl⟩ ?_
    rintro m Γ' Ω' ⟨x, us, a, b, c, hx, lm, l2, lo, lu, rfl, rfl⟩
    obtain ⟨n, rfl⟩ : ∃ n, m = n + 1 := ⟨m - 1, by omega⟩
    refine t_B (e_bl ⟨true, rfl, fun _ => ?_, nofun⟩)
    refine s_seqM (fun Γ' Ω' => Ω' = put (put Ω pd ((x.op.map PyData.int).map .dat)) pu ((us.map PyData.int).map .dat) ∧ Γ' = [some (.dat s.enc), some (.dat (rules rs)), some (.dat (.tuple [encT ts, .int mood])), some (.dat (.int asked)), some (.dat (.int wait)), some (.dat (encT x.ts)), some (.dat (.int x.mood)), some (.ptr pd), some (.ptr pu), some (.dat (itup [asked, psum x.ts, age0 x.ts, wait])), b, c]) ?_ ?_
    · refine s_asg (e_tupD (a_cons (e_var rfl (a_cons (e_call (a_cons (e_var rfl (a_nil ⟨x.ts, rfl, by omega, ?_⟩))))))))
      match hxl : x.ts with
      | [] => exact a_cons (e_if (t_truT (e_var rfl ⟨_, rfl, nofun, fun _ => e_int (a_cons (e_var rfl (a_nil ⟨_, .cons (.cons (.cons (.cons .nil))), rfl, rfl, rfl⟩)))⟩)))
      | t :: l => exact a_cons (e_if (t_truT (e_var rfl ⟨_, rfl, (fun _ => e_op (e_op (e_var rfl (e_int (r_ixT (d := encTub t) (atI_nat' (i := 0) rfl) (e_int (r_ixT rfl (a_cons (e_var rfl (a_nil ⟨_, .cons (.cons (.cons (.cons .nil))), rfl, rfl, rfl⟩)))))))))), nofun⟩)))
    rintro Γ' Ω' ⟨rfl, rfl⟩
    refine s_seqM (fun Γ' Ω' => Ω' = put (put Ω pd ((x.op.map PyData.int).map .dat)) pu ((us.map PyData.int).map .dat) ∧ ∃ ix, Γ' = [some (.dat s.enc), some (.dat (rules rs)), some (.dat (.tuple [encT ts, .int mood])), some (.dat (.int asked)), some (.dat (.int wait)), some (.dat (encT x.ts)), some (.dat (.int x.mood)), some (.ptr pd), some (.ptr pu), some (.dat (itup [asked, psum x.ts, age0 x.ts, wait])), some (.dat ix), c] ∧
      ((ix = .none ∧ rs.find? (tfits x.ts asked wait x.mood) = none) ∨ ∃ (i : Nat) (r : Rw), ix = .int (i : Nat) ∧ rs[i]? = some r ∧ rs.find? (tfits x.ts asked wait x.mood) = some r ∧ tfits x.ts asked wait x.mood r = true)) ?_ ?_
    · refine s_asg (e_call (a_cons (e_var rfl (a_cons (e_var rfl (a_cons (e_var rfl (a_cons (e_call (a_cons (e_var rfl (a_nil ⟨x.ts, rfl, fun ds fl hf => a_nil ⟨rs, tfeas x.ts, asked, psum x.ts, age0 x.ts, wait, x.mood, ds, rfl, fl, fun r hr => hf r.d (ro.all r hr).d, fun hn => ⟨rfl, _, rfl, .inl ⟨rfl, ?_⟩⟩, fun i r er hr hb => ⟨rfl, _, rfl, .inr ⟨i, r, rfl, er, ?_, hr⟩⟩⟩⟩))))))))))))
      · rw [List.find?_eq_none]
        intro r hr
        rw [show tfits x.ts asked wait x.mood r = false from hn r hr]
        decide
      · rw [List.find?_eq_some_iff_getElem]
        obtain ⟨hi, ei⟩ := List.getElem?_eq_some_iff.mp er
        refine ⟨hr, i, hi, ei, fun j hj => ?_⟩
        rw [show tfits x.ts asked wait x.mood _ = false from hb j _ hj (List.getElem?_eq_getElem (by omega))]
        rfl
    rintro Γ' Ω' ⟨rfl, ix, rfl, ⟨rfl, hn⟩ | ⟨i, r, rfl, er, hs, hp⟩⟩
    · have eX : X = x := by
        rw [hx]
        unfold openT
        rw [hn]
      rw [eX]
      exact s_seq (s_if (t_test (e_op (e_var rfl (e_non (r_isN ⟨_, rfl, (fun _ => s_brk ⟨us, _, _, _, rfl, rfl⟩), nofun⟩))))))
    refine s_seq (s_if (t_test (e_op (e_var rfl (e_non (r_isN ⟨_, rfl, nofun, (fun _ => s_next ?_)⟩))))))
    have hfe : tfeas x.ts r.d = true := by
      simp only [tfits, fitG, Bool.and_eq_true] at hp
      exact hp.2.1
    have eX : X = if r.d = "rest" then stepT s x r else openT s rs asked wait n (stepT s x r) := by
      rw [hx]
      show (match rs.find? (tfits x.ts asked wait x.mood) with | none => x | some (r : Rw) => if r.d = "rest" then stepT s x r else openT s rs asked wait n (stepT s x r)) = _
      rw [hs]
    refine s_seq (s_drop (e_app (e_var rfl ⟨pu, rfl, ⟨_, put_same⟩, a_cons (e_var rfl (a_nil ⟨_, _, rfl, put_same, by rw [List.length_map, List.length_map]; omega, ?_⟩))⟩)))
    have eu : put (put (put Ω pd ((x.op.map PyData.int).map .dat)) pu ((us.map PyData.int).map .dat)) pu ((us.map PyData.int).map .dat ++ [.dat (.int (i : Nat))]) = put (put Ω pd ((x.op.map PyData.int).map .dat)) pu (((us ++ [(i : Int)]).map PyData.int).map .dat) := by
      rw [put_put, List.map_append, List.map_append]
      rfl
    rw [eu]
    have eix : atI (rs.map Rw.enc) ((i : Nat) : Int) = some r.enc := atI_nat' (by rw [List.getElem?_map, er]; rfl)
    have hd3 := tub3 (ro.all r (List.mem_of_getElem? er))
    obtain ⟨rm, rf, rl, rsg, ro', rd, ra⟩ := r
    refine s_seq (s_asg (e_op (e_op (e_var rfl (e_var rfl (r_ixT eix (e_int (r_ixT rfl ?_))))))))
    refine s_seq (s_asg (e_op (e_op (e_var rfl (e_var rfl (r_ixT eix (e_int (r_ixT rfl ?_))))))))
    by_cases hrd : rd = "rest"
    · subst hrd
      replace eX := eX.trans ((if_pos rfl).trans (if_pos rfl))
      rw [eX]
      exact s_seq (s_if (t_test (e_op (e_var rfl (e_str (r_eq rfl ⟨_, rfl, (fun _ => s_brk ⟨_, _, _, _, rfl, rfl⟩), (fun z => absurd (show eqD (.str "rest") (.str "rest") = false from z) (by decide))⟩))))))
    · have hsg : rd = "small" ∨ rd = "great" := by
        rcases hd3 with e | e | e
        · exact .inl e
        · exact .inr e
        · exact absurd e hrd
      have e3 : stepT s x ⟨rm, rf, rl, rsg, ro', rd, ra⟩ = ⟨x.ts ++ [(0, kindOf s rd)], ra, x.op ++ [kindOf s rd]⟩ := if_neg hrd
      replace eX := eX.trans (if_neg hrd)
      rw [e3] at eX
      have hl : x.ts.length < 2 := by
        have : tfeas x.ts rd = true := hfe
        unfold tfeas at this
        rw [if_neg hrd] at this
        exact of_decide_eq_true this
      refine s_seq (s_if (t_test (e_op (e_var rfl (e_str (r_eq rfl ⟨_, rfl, (fun z => absurd (by simpa [eqD] using z) hrd), (fun _ => s_next ?_)⟩))))))
      refine s_seq (s_asg (e_call (a_cons (e_var rfl (a_cons (e_var rfl (a_cons (e_var rfl (a_nil ⟨s, x.ts, rd, rfl, so, by omega, hsg, ?_⟩)))))))))
      refine s_drop (e_app (e_var rfl ⟨pd, rfl, ⟨_, by rw [put_ne ne.symm, put_same]⟩, a_cons (e_op (e_op (e_var rfl (e_un (e_int (r_neg (r_ixT (d := encTub (0, kindOf s rd)) (by rw [List.map_append]; exact atI_last) (e_int (r_ixT rfl (a_nil ⟨_, _, rfl, by rw [put_ne ne.symm, put_same], by rw [List.length_map, List.length_map]; omega, ?_⟩))))))))))⟩))
      refine ⟨n, Nat.lt_succ_self n, ⟨x.ts ++ [(0, kindOf s rd)], ra, x.op ++ [kindOf s rd]⟩, us ++ [(i : Int)], _, _, _, eX, by show 2 < n + (x.ts ++ [_]).length; rw [List.length_append]; show 2 < n + (x.ts.length + 1); omega, by show (x.ts ++ [_]).length ≤ 2; rw [List.length_append]; show x.ts.length + 1 ≤ 2; omega, by show (x.op ++ [_]).length ≤ (x.ts ++ [_]).length; rw [List.length_append, List.length_append]; show x.op.length + 1 ≤ x.ts.length + 1; omega, by show (us ++ [_]).length ≤ (x.op ++ [_]).length; rw [List.length_append, List.length_append]; show us.length + 1 ≤ x.op.length + 1; omega, rfl, ?_⟩
      rw [Dat.put_comm ne, put_put]
      rw [show ((x.op ++ [kindOf s rd]).map PyData.int).map Av.dat = (x.op.map PyData.int).map Av.dat ++ [.dat (.int (kindOf s rd))] by rw [List.map_append, List.map_append]; rfl]
  rintro Γ' Ω' ⟨us, a, b, c, rfl, rfl⟩
  refine s_frz 8 rfl put_same ?_
  rw [del_put (by rw [put_ne ne]; exact nu')]
  refine s_ret (e_tupD (a_cons (e_tupD (a_cons (e_var rfl (a_cons (e_var rfl (a_nil ⟨_, .cons (.cons .nil), rfl, a_cons (e_then (e_var rfl (r_tupP put_same ?_)))⟩))))))))
  rw [del_put nd]
  exact a_cons (e_var rfl (a_nil ⟨_, .cons (.cons (.cons .nil)), rfl, h us⟩))
abbrev spEat : ASp := fun as Ω P => ∃ (ts : List Tub) (asked : Int), as = [.dat (encT ts), .dat (.int asked)] ∧ ts.length ≤ 100 ∧ P (.dat (.list ((eats asked ts).map PyData.int))) Ω
theorem eats_drop {ts : List Tub} {i : Nat} {t : Tub} {l : Int} (e : ts[i]? = some t) : eats l (ts.drop i) = eatM t.2 l :: eats (l - eatM t.2 l) (ts.drop (i + 1)) := by
  obtain ⟨hi, hg⟩ := List.getElem?_eq_some_iff.mp e
  rw [List.drop_eq_getElem_cons hi, hg]
  rfl
theorem tub_at {ts : List Tub} {i : Nat} {a : Av} (h : ((ts.map encTub).map Av.dat)[i]? = some a) : ∃ t, ts[i]? = some t ∧ a = .dat (encTub t) := by
  rw [List.getElem?_map, List.getElem?_map] at h
  cases e : ts[i]? with
  | none => rw [e] at h; cases h
  | some r =>
    rw [e] at h
    cases h
    exact ⟨r, rfl, rfl⟩
theorem ok_eaten (T : Top K mg) : FnOk P w K mg base CX0 1 T.f_eaten_of T.d_eaten_of ["tubs", "asked"] (spA K spEat) := by
  refine fnA_ok T.D_eaten_of.F sc_eaten_of (fun as Ω P ⟨ts, asked, e, _⟩ => by subst e; rfl) (fun cdv A outer s H E hr => ?_)
  refine ⟨_, (pss_cons (ps_set (i := 2) sc_eaten_of.nd rfl (.inl rfl) (pe_lst pa_nil))
    (pss_cons (ps_for PassesOwn.never rfl (Dat.piT (K := K) rfl (pv 0)) (Dat.pgT (K := K) (n := 2) rfl rfl (pgs_cons (pg_name (i := 3) sc_eaten_of.nd rfl (.inl rfl)) (pgs_cons (pg_name (i := 4) sc_eaten_of.nd rfl (.inl rfl)) pgs_nil)))
      (pss_one (ps_expr (Dat.appQ (K := K) rfl (pv 2) (pa_cons (pe_callB (Dat.cl_min2 rfl) rfl T.b_min bt_min (pa_cons (pv 4) (pa_cons (pe_op op_sub (pv 1) (pe_callB (Dat.sumQ (K := K) rfl rfl) rfl T.b_sum bt_sum (pa_cons (pv 2) pa_nil))) pa_nil))) pa_nil)))))
    (pss_one (ps_ret (pv 2))))), ?_⟩
  rintro as Ω P ⟨ts, asked, rfl, hl, h⟩
  refine s_seq (s_asg (e_lstP (a_nil ⟨by simp, fun p np => ?_⟩)))
  refine s_seqM (fun Γ' Ω' => (∃ x y, Γ' = [some (.dat (encT ts)), some (.dat (.int asked)), some (.ptr p), x, y]) ∧ Ω' = put Ω p (((eats asked ts).map PyData.int).map .dat)) ?_ ?_
  · refine s_for (fun as i Γ' Ω' => as = (ts.map encTub).map .dat ∧ ∃ (es : List Int) (x y : Option Av), eats asked ts = es ++ eats (asked - es.sum) (ts.drop i) ∧ es.length = i ∧ Γ' = [some (.dat (encT ts)), some (.dat (.int asked)), some (.ptr p), x, y] ∧ Ω' = put Ω p ((es.map PyData.int).map .dat)) ?_
    refine i_tup (e_var rfl ⟨_, rfl, ⟨rfl, [], none, none, by simp, rfl, rfl, rfl⟩, ?_, ?_⟩)
    · rintro i it Γ' Ω' hit ⟨_, es, x, y, he, le, rfl, rfl⟩
      obtain ⟨t, et, rfl⟩ := tub_at hit
      have hi := (List.getElem?_eq_some_iff.mp et).1
      refine g_tup rfl (gs_cons (g_name ⟨rfl, gs_cons (g_name ⟨rfl, gs_nil ?_⟩)⟩))
      refine s_drop (e_app (e_var rfl ⟨p, rfl, ⟨_, put_same⟩, a_cons (e_cb (a_cons (e_var rfl (a_cons (e_op (e_var rfl (e_cb (a_cons (e_var rfl (a_nil (c_sumP put_same (r_I0i (a_nil (c_min2 (a_nil ⟨_, _, rfl, put_same, by rw [List.length_map, List.length_map]; omega, ?_⟩)))))))))))))))⟩))
      refine ⟨rfl, es ++ [eatM t.2 (asked - es.sum)], _, _, ?_, by rw [List.length_append, le]; rfl, rfl, ?_⟩
      · rw [he, eats_drop et, List.append_assoc, List.sum_append]
        show es ++ (_ :: _) = es ++ (_ :: _)
        congr 2
        simp only [List.sum_cons, List.sum_nil]
        congr 1
        omega
      · rw [put_put, List.map_append, List.map_append]
        rfl
    · rintro Γ' Ω' ⟨_, es, x, y, he, le, rfl, rfl⟩
      rw [List.length_map, List.length_map, List.drop_length] at he
      rw [he, show eats (asked - es.sum) [] = [] from rfl, List.append_nil]
      exact ⟨⟨x, y, rfl⟩, rfl⟩
  rintro Γ' Ω' ⟨⟨x, y, rfl⟩, rfl⟩
  refine s_frz 2 rfl put_same ?_
  rw [del_put np]
  exact s_ret (e_var rfl h)
end
end K38

set_option Elab.async false
set_option linter.all false
set_option maxRecDepth 100000
set_option maxHeartbeats 1000000
namespace K38
open PySem PySem.Spec PyProof.Rows L2 Dat LamX Clo
local macro_rules | `(tactic| trivial) => `(tactic| (first
  | (with_reducible refine s_seq ?_)
  | (with_reducible refine s_asg ?_)
  | (with_reducible refine s_ret ?_)
  | (with_reducible refine s_drop ?_)
  | (with_reducible refine s_next ?_)
  | (with_reducible refine s_retN ?_)
  | (with_reducible refine s_brk ?_)
  | (with_reducible refine s_cont ?_)
  | (with_reducible refine s_if ?_)
  | (with_reducible refine e_int ?_)
  | (with_reducible refine e_str ?_)
  | (with_reducible refine e_bl ?_)
  | (with_reducible refine e_non ?_)
  | (with_reducible refine e_ty ?_)
  | (with_reducible refine e_tupD ?_)
  | (with_reducible refine e_lstD ?_)
  | (with_reducible refine e_op ?_)
  | (with_reducible refine e_un ?_)
  | (with_reducible refine e_then ?_)
  | (with_reducible refine e_cb ?_)
  | (with_reducible refine e_call ?_)
  | (with_reducible refine e_if ?_)
  | (with_reducible refine e_chain ?_)
  | (with_reducible refine e_andV ?_)
  | (with_reducible refine e_orV ?_)
  | (with_reducible refine e_notV ?_)
  | (with_reducible refine a_cons ?_)
  | (with_reducible refine a_nil ?_)
  | (with_reducible refine t_test ?_)
  | (with_reducible refine t_B ?_)
  | (with_reducible refine t_not ?_)
  | (with_reducible refine t_and ?_)
  | (with_reducible refine t_or ?_)
  | (with_reducible refine r_I0i ?_)
  | (with_reducible refine r_I0b ?_)
  | (with_reducible refine r_neg ?_)
  | (with_reducible refine r_isN ?_)
  | (with_reducible refine r_notN ?_)
  | (with_reducible refine c_lenT ?_)
  | (with_reducible refine c_lenL ?_)
  | (with_reducible refine c_intI ?_)
  | (with_reducible refine c_intB ?_)
  | (with_reducible refine c_max2 ?_)
  | (with_reducible refine c_min2 ?_)
  | (with_reducible refine c_abs ?_)
  | (with_reducible refine r_tupL ?_)
  | (with_reducible refine r_tupT ?_)
  | (with_reducible refine c_allM ?_)
  | ((with_reducible apply e_var); (exact rfl))
  | ((with_reducible refine r_eq ?_ ?_); (exact rfl))
  | ((with_reducible refine r_ne ?_ ?_); (exact rfl))
  | (with_reducible refine c_isi kit_int ?_)
  | (with_reducible refine c_isi kit_bool ?_)
  | (with_reducible refine c_isi kit_tuple ?_)
  | (with_reducible refine c_isi kit_list ?_)
  | (with_reducible refine c_isi kit_str ?_)
  | ((with_reducible apply r_ixT); (exact rfl))
  | ((with_reducible apply dats_pack); (iterate 40 (first | exact Dats.nil | apply Dats.cons | skip)); (exact rfl))
  | (with_reducible refine s_asgG ?_) | (with_reducible refine g_name ?_) | ((with_reducible refine g_tup ?_ ?_); (exact rfl)) | (refine gs_nil ?_) | (refine gs_cons ?_) | (with_reducible refine ⟨rfl, ?_⟩)
  | (refine ⟨_, rfl, ?_⟩) | (refine ⟨_, _, rfl, ?_⟩) | (refine ⟨_, _, _, rfl, ?_⟩) | (with_reducible refine ⟨fun _ => ?_, fun _ => ?_⟩) | fail))
/-! ### the end of a beat; who was seated; a beat of the bench -/
theorem openT_len {s : Shop} {rs : List Rw} {asked wait : Int} : ∀ (n : Nat) {x : Tl}, x.ts.length ≤ 2 → (openT s rs asked wait n x).ts.length ≤ 2
  | 0, _, h => h
  | n + 1, x, h => by
    unfold openT
    split
    · exact h
    · next r e =>
      have p : tfeas x.ts r.d = true := by
        have := List.find?_some e
        simp only [tfits, fitG, Bool.and_eq_true] at this
        exact this.2.1
      split
      · next hd =>
        rw [stepT, if_pos hd]
        exact h
      · next hd =>
        refine openT_len n ?_
        rw [stepT, if_neg hd]
        rw [tfeas, if_neg hd] at p
        have := of_decide_eq_true p
        show (x.ts ++ [_]).length ≤ 2
        rw [List.length_append]
        show x.ts.length + 1 ≤ 2
        omega
theorem older_len {asked : Int} {ts : List Tub} : (older asked ts).length ≤ ts.length := by
  unfold older
  rw [List.length_map]
  refine Nat.le_trans (List.length_filter_le _ _) ?_
  rw [List.length_zip]
  exact Nat.min_le_left _ _
theorem older_enc {asked : Int} {ts : List Tub} : ((ts.zip (eats asked ts)).filter fun z => decide (z.1.2 > z.2)).map (fun z => encTub (z.1.1 + 1, z.1.2 - z.2)) = (older asked ts).map encTub := by
  unfold older
  rw [List.map_map]
  rfl
def dsum (ds : List (Str × Int)) : Int := (ds.map (·.2)).sum
section
variable {P : Program} {w : World} {K : PySem.W.Frag} [Tb K] {mg : Str → Option Value} {base : Heap}
abbrev spEnd : ASp := fun as Ω P => ∃ (s : Shop) (ts : List Tub) (asked : Int), as = [.dat s.enc, .dat (encT ts), .dat (.int asked)] ∧ ts.length ≤ 2 ∧ P (.dat (.tuple [encT (leftT s asked ts), .int (lackT asked ts), .int (meltT s asked ts)])) Ω
theorem ok_end (T : Top K mg) : FnOk P w K mg base CX0 2 T.f_end_beat T.d_end_beat ["setup", "tubs", "asked"] (spA K spEnd) := by
  have G_eaten_of : FnOk P w K mg base CX0 1 T.f_eaten_of T.d_eaten_of ["tubs", "asked"] (spA K spEat) := ok_eaten T
  refine fnA_ok T.D_end_beat.F sc_end_beat (fun as Ω P ⟨s, ts, asked, e, _⟩ => by subst e; rfl) (fun cdv A outer s H E hr => ?_)
  refine ⟨_, (pss_cons (ps_set (i := 3) sc_end_beat.nd rfl (.inl rfl) (pe_call G_eaten_of (hr.mono (by omega)) rfl T.D_eaten_of.g T.D_eaten_of.F.kp T.D_eaten_of.b .nil pass0 (pa_cons (pv 1) (pa_cons (pv 2) pa_nil))))
    (pss_cons (ps_setLc (i := 4) (own := [("gone", 7), ("age", 5), ("portions", 6)]) (g := (gTup K 2 (gCons (gTup K 2 (gCons (gName 5) (gCons (gName 6) gNil))) (gCons (gName 7) gNil)))) (tt := _) rfl sc_end_beat.nd rfl rfl (sw_true rfl rfl rfl (by decide +kernel)) (Dat.zipTLQ (K := K) rfl rfl T.b_zip (pa_cons (pv 1) (pa_cons (pv 3) pa_nil))) (blkOk_by (N := N_end_beat) (sc := defScope s_end_beat) (by decide +kernel)) (fun _ _ _ _ _ => (Dat.pgT (K := K) (n := 2) rfl rfl (pgs_cons (Dat.pgT (K := K) (n := 2) rfl rfl (pgs_cons (pg_name (i := 5) sc_end_beat.nd rfl (Or.inl rfl)) (pgs_cons (pg_name (i := 6) sc_end_beat.nd rfl (Or.inl rfl)) pgs_nil))) (pgs_cons (pg_name (i := 7) sc_end_beat.nd rfl (Or.inl rfl)) pgs_nil)))) (fun _ _ _ _ _ => (pts_one (pt_cmpR op_gt (pv 6) (pv 7) (nomark _)))) (fun _ _ _ _ _ => (pe_tup (pa_cons (pe_op op_add (pv 5) pe_int) (pa_cons (pe_op op_sub (pv 6) (pv 7)) pa_nil)))))
    (pss_cons (ps_set (i := 8) sc_end_beat.nd rfl (.inl rfl) (pe_callB (Dat.sumQ (K := K) rfl rfl) rfl T.b_sum bt_sum (pa_cons (pe_lc (own := [("age", 5), ("portions", 6)]) (g := (gTup K 2 (gCons (gName 5) (gCons (gName 6) gNil)))) (tt := _) rfl sc_end_beat.nd (Dat.piL (K := K) rfl (pv 4)) (blkOk_by (N := N_end_beat) (sc := defScope s_end_beat) (by decide +kernel)) (fun _ _ _ _ _ => (Dat.pgT (K := K) (n := 2) rfl rfl (pgs_cons (pg_name (i := 5) sc_end_beat.nd rfl (Or.inl rfl)) (pgs_cons (pg_name (i := 6) sc_end_beat.nd rfl (Or.inl rfl)) pgs_nil)))) (fun _ _ _ _ _ => (pts_one (pt_cmpR op_eq (pv 5) (pe_ix (Dat.ixT (K := K) rfl) (pv 0) pe_int (fun _ _ => rfl)) (nomark _)))) (fun _ _ _ _ _ => (pv 6))) pa_nil)))
    (pss_one (ps_ret (pe_tup (pa_cons (Dat.pe_tupleK (K := K) rfl rfl T.b_tuple (pe_lc (own := [("tub", 9)]) (g := (gName 9)) (tt := _) rfl sc_end_beat.nd (Dat.piL (K := K) rfl (pv 4)) (blkOk_by (N := N_end_beat) (sc := defScope s_end_beat) (by decide +kernel)) (fun _ _ _ _ _ => (pg_name (i := 9) sc_end_beat.nd rfl (Or.inl rfl))) (fun _ _ _ _ _ => (pts_one (pt_cmpR op_lt (pe_ix (Dat.ixT (K := K) rfl) (pv 9) pe_int (fun _ _ => rfl)) (pe_ix (Dat.ixT (K := K) rfl) (pv 0) pe_int (fun _ _ => rfl)) (nomark _)))) (fun _ _ _ _ _ => (pv 9)))) (pa_cons (pe_op op_sub (pv 2) (pe_callB (Dat.sumQ (K := K) rfl rfl) rfl T.b_sum bt_sum (pa_cons (pv 3) pa_nil))) (pa_cons (pv 8) pa_nil))))))))), ?_⟩
  rintro as Ω P ⟨s, ts, asked, rfl, hl, h⟩
  have hO : (older asked ts).length ≤ ts.length := older_len
  refine s_seq (s_asg (e_call (a_cons (e_var rfl (a_cons (e_var rfl (a_nil ⟨ts, asked, rfl, by omega, ?_⟩)))))))
  refine s_seq (s_asg (e_lcF (ts.zip (eats asked ts)) (fun z => .dat (.tuple [encTub z.1, .int z.2])) (fun z => decide (z.1.2 > z.2)) (fun z => encTub (z.1.1 + 1, z.1.2 - z.2)) (gn_tup (gns_cons (gn_tup (gns_cons (gn_name (by decide)) (gns_cons (gn_name (by decide)) gns_nil))) (gns_cons (gn_name (by decide)) gns_nil))) (by rw [List.length_zip]; omega) ?_))
  refine i_zipTL (a_cons (e_var rfl (a_cons (e_var rfl (a_nil ⟨_, _, rfl, by rw [List.length_map, List.length_map, eats_len], zipA_map encTub PyData.int ts (eats asked ts) eats_len.symm, fun z Ω' _ _ => ?_, ?_⟩)))))
  · refine g_tup rfl (gs_cons (g_tup rfl (gs_cons (g_name ⟨rfl, gs_cons (g_name ⟨rfl, gs_nil ⟨rfl, gs_cons (g_name ⟨rfl, gs_nil ⟨rfl, ?_⟩⟩)⟩⟩)⟩))))
    exact t_test (e_op (e_var rfl (e_var rfl (r_I0b ⟨_, rfl, rfl, rfl, fun _ => e_tupD (a_cons (e_op (e_var rfl (e_int (r_I0i (a_cons (e_op (e_var rfl (e_var rfl (r_I0i (a_nil ⟨_, .cons (.cons .nil), rfl, rfl, rfl⟩)))))))))))⟩))))
  rw [older_enc]
  refine s_seq (s_asg (e_cb (a_cons (e_lcF (older asked ts) (fun t => .dat (encTub t)) (fun t => decide (t.1 = s.life)) (fun t => .int t.2) (gn_tup (gns_cons (gn_name (by decide)) (gns_cons (gn_name (by decide)) gns_nil))) (by omega) ?_))))
  refine i_list (e_var rfl ⟨_, rfl, (by rw [List.map_map]; rfl), fun t Ω' _ _ => g_tup rfl (gs_cons (g_name ⟨rfl, gs_cons (g_name ⟨rfl, gs_nil ⟨rfl, ?_⟩⟩)⟩)), ?_⟩)
  · exact t_test (e_op (e_var rfl (e_op (e_var rfl (e_int (r_ixT rfl (r_eq rfl ⟨_, rfl, rfl, rfl, fun _ => e_var rfl ⟨rfl, rfl⟩⟩)))))))
  rw [sum_snd]
  refine a_nil (c_sum ?_)
  refine s_ret (e_tupD (a_cons (e_then (e_lcF (older asked ts) (fun t => .dat (encTub t)) (fun t => decide (t.1 < s.life)) encTub (gn_name (by decide)) (by omega) ?_))))
  refine i_list (e_var rfl ⟨_, rfl, (by rw [List.map_map]; rfl), fun t Ω' _ _ => g_name ⟨rfl, t_test (e_op (e_op (e_var rfl (e_int (r_ixT rfl (e_op (e_var rfl (e_int (r_ixT rfl (r_I0b ⟨_, rfl, rfl, rfl, fun _ => e_var rfl ⟨rfl, rfl⟩⟩))))))))))⟩, ?_⟩)
  exact r_tupL (a_cons (e_op (e_var rfl (e_cb (a_cons (e_var rfl (a_nil (c_sum (r_I0i (a_cons (e_var rfl (a_nil ⟨_, .cons (.cons (.cons .nil)), rfl, h⟩))))))))))))
abbrev wordT (s : Shop) (X : Tl) (asked : Int) : List PyData := [itup X.op, .int (asked - lackT asked X.ts), .int (lackT asked X.ts), .int (meltT s asked X.ts)]
abbrev spTB : ASp := fun as Ω P => ∃ (s : Shop) (rs : List Rw) (ts : List Tub) (mood asked wait : Int), as = [.dat s.enc, .dat (rules rs), .dat (.tuple [encT ts, .int mood]), .dat (.int asked), .dat (.int wait)] ∧ s.Ok ∧ RsOk tubWs rs ∧ ts.length ≤ 2 ∧
  ∀ us : List Int, P (.dat (.tuple [.tuple [encT (leftT s asked (openT s rs asked wait 9 ⟨ts, mood, []⟩).ts), .int (openT s rs asked wait 9 ⟨ts, mood, []⟩).mood], .tuple (wordT s (openT s rs asked wait 9 ⟨ts, mood, []⟩) asked), .list (us.map PyData.int)])) Ω
theorem ok_tb (T : Top K mg) : FnOk P w K mg base CX0 4 T.f_tub_beat T.d_tub_beat ["setup", "rule", "standing", "asked", "waiting"] (spA K spTB) := by
  have G_open_tubs : FnOk P w K mg base CX0 3 T.f_open_tubs T.d_open_tubs ["setup", "rule", "standing", "asked", "waiting"] (spA K spOpen) := ok_open T
  have G_end_beat : FnOk P w K mg base CX0 2 T.f_end_beat T.d_end_beat ["setup", "tubs", "asked"] (spA K spEnd) := ok_end T
  refine fnA_ok T.D_tub_beat.F sc_tub_beat (fun as Ω P ⟨s, rs, ts, mood, asked, wait, e, _⟩ => by subst e; rfl) (fun cdv A outer s H E hr => ?_)
  refine ⟨_, (pss_cons (ps_asg (pe_call G_open_tubs (hr.mono (by omega)) rfl T.D_open_tubs.g T.D_open_tubs.F.kp T.D_open_tubs.b .nil pass0 (pa_cons (pv 0) (pa_cons (pv 1) (pa_cons (pv 2) (pa_cons (pv 3) (pa_cons (pv 4) pa_nil)))))) (Dat.pgT (K := K) (n := 3) rfl rfl (pgs_cons (Dat.pgT (K := K) (n := 2) rfl rfl (pgs_cons (pg_name (i := 5) sc_tub_beat.nd rfl (.inl rfl)) (pgs_cons (pg_name (i := 6) sc_tub_beat.nd rfl (.inl rfl)) pgs_nil))) (pgs_cons (pg_name (i := 7) sc_tub_beat.nd rfl (.inl rfl)) (pgs_cons (pg_name (i := 8) sc_tub_beat.nd rfl (.inl rfl)) pgs_nil)))))
    (pss_cons (ps_asg (pe_call G_end_beat (hr.mono (by omega)) rfl T.D_end_beat.g T.D_end_beat.F.kp T.D_end_beat.b .nil pass0 (pa_cons (pv 0) (pa_cons (pv 5) (pa_cons (pv 3) pa_nil)))) (Dat.pgT (K := K) (n := 3) rfl rfl (pgs_cons (pg_name (i := 9) sc_tub_beat.nd rfl (.inl rfl)) (pgs_cons (pg_name (i := 10) sc_tub_beat.nd rfl (.inl rfl)) (pgs_cons (pg_name (i := 11) sc_tub_beat.nd rfl (.inl rfl)) pgs_nil)))))
    (pss_one (ps_ret (pe_tup (pa_cons (pe_tup (pa_cons (pv 9) (pa_cons (pv 6) pa_nil))) (pa_cons (pe_tup (pa_cons (pv 7) (pa_cons (pe_op op_sub (pv 3) (pv 10)) (pa_cons (pv 10) (pa_cons (pv 11) pa_nil))))) (pa_cons (pv 8) pa_nil)))))))), ?_⟩
  rintro as Ω P ⟨s, rs, ts, mood, asked, wait, rfl, so, ro, tl, h⟩
  have l2 : (openT s rs asked wait 9 ⟨ts, mood, []⟩).ts.length ≤ 2 := openT_len 9 tl
  refine s_seq (s_asgG (e_call (a_cons (e_var rfl (a_cons (e_var rfl (a_cons (e_var rfl (a_cons (e_var rfl (a_cons (e_var rfl (a_nil ⟨s, rs, ts, mood, asked, wait, rfl, so, ro, tl, fun us => ?_⟩)))))))))))))
  generalize openT s rs asked wait 9 ⟨ts, mood, []⟩ = X at h l2 ⊢
  refine g_tup rfl (gs_cons (g_tup rfl (gs_cons (g_name ⟨rfl, gs_cons (g_name ⟨rfl, gs_nil ⟨rfl, gs_cons (g_name ⟨rfl, gs_cons (g_name ⟨rfl, gs_nil ?_⟩)⟩)⟩⟩)⟩))))
  refine s_seq (s_asgG (e_call (a_cons (e_var rfl (a_cons (e_var rfl (a_cons (e_var rfl (a_nil ⟨s, X.ts, asked, rfl, l2, ?_⟩)))))))))
  refine g_tup rfl (gs_cons (g_name ⟨rfl, gs_cons (g_name ⟨rfl, gs_cons (g_name ⟨rfl, gs_nil ?_⟩)⟩)⟩))
  exact s_ret (e_tupD (a_cons (e_tupD (a_cons (e_var rfl (a_cons (e_var rfl (a_nil ⟨_, .cons (.cons .nil), rfl, a_cons (e_tupD (a_cons (e_var rfl (a_cons (e_op (e_var rfl (e_var rfl (r_I0i (a_cons (e_var rfl (a_cons (e_var rfl (a_nil ⟨_, .cons (.cons (.cons (.cons .nil))), rfl, a_cons (e_var rfl (a_nil ⟨_, .cons (.cons (.cons .nil)), rfl, h us⟩))⟩)))))))))))))⟩))))))))
abbrev encDd (d : Str × Int) : PyData := .tuple [.str d.1, .int d.2]
abbrev spSeated : ASp := fun as Ω P => ∃ ds : List (Str × Int), as = [.dat (.tuple (encD ds))] ∧ ds.length ≤ 100 ∧ P (.dat (.int (dsum ds))) Ω
theorem sum_ds (ds : List (Str × Int)) : (ds.map fun t => PyData.int t.2) = (ds.map (·.2)).map PyData.int := by rw [List.map_map]; rfl
theorem ok_seated (T : Top K mg) : FnOk P w K mg base CX0 1 T.f_seated T.d_seated ["deeds"] (spA K spSeated) := by
  refine fnA_ok T.D_seated.F sc_seated (fun as Ω P ⟨ds, e, _⟩ => by subst e; rfl) (fun cdv A outer s H E hr => ?_)
  refine ⟨_, (pss_one (ps_ret (pe_callB (Dat.sumQ (K := K) rfl rfl) rfl T.b_sum bt_sum (pa_cons (pe_lc (own := [("_", 2), ("size", 1)]) (g := (gTup K 2 (gCons (gName 2) (gCons (gName 1) gNil)))) (tt := tYes) rfl sc_seated.nd (Dat.piT (K := K) rfl (pv 0)) (blkOk_by (N := N_seated) (sc := defScope s_seated) (by decide +kernel)) (fun _ _ _ _ _ => (Dat.pgT (K := K) (n := 2) rfl rfl (pgs_cons (pg_name (i := 2) sc_seated.nd rfl (Or.inl rfl)) (pgs_cons (pg_name (i := 1) sc_seated.nd rfl (Or.inl rfl)) pgs_nil)))) (fun _ _ _ _ _ => pts_nil) (fun _ _ _ _ _ => (pv 1))) pa_nil)))), ?_⟩
  rintro as Ω P ⟨ds, rfl, hl, h⟩
  refine s_ret (e_cb (a_cons (e_lcM ds (fun d => .dat (encDd d)) (fun d => .int d.2) (gn_tup (gns_cons (gn_name (by decide)) (gns_cons (gn_name (by decide)) gns_nil))) (by omega) ?_)))
  refine i_tup (e_var rfl ⟨_, rfl, (by rw [List.map_map]; rfl), fun t Ω' _ _ => g_tup rfl (gs_cons (g_name ⟨rfl, gs_cons (g_name ⟨rfl, gs_nil ⟨rfl, e_var rfl ⟨rfl, rfl⟩⟩⟩)⟩)), ?_⟩)
  rw [sum_ds]
  exact a_nil (c_sum h)
abbrev spBeat : ASp := fun as Ω P => ∃ (s : Shop) (rs : List Rw) (t : St) (c : Com) (por : Int), as = [.dat s.enc, .dat (rules rs), .dat t.enc, .dat c.enc, .dat (.int por)] ∧ s.Ok ∧ RsOk seatWs rs ∧ StOk s t ∧ c.Ok s ∧
  ∀ u, P (.dat (.tuple [St.enc (stOf (beatF s rs por t c)), .tuple [.tuple (encD (beatF s rs por t c).ds), .int (emptyF (beatF s rs por t c)), .int (awayF s t c)], u])) Ω
theorem ok_beat (T : Top K mg) : FnOk P w K mg base CX0 4 T.f_bench_beat T.d_bench_beat ["setup", "rule", "standing", "comers", "portions"] (spA K spBeat) := by
  have G_fill_bench : FnOk P w K mg base CX0 3 T.f_fill_bench T.d_fill_bench ["setup", "rule", "standing", "portions"] (spA K spFill) := ok_fill T
  have G_come_in : FnOk P w K mg base CX0 1 T.f_come_in T.d_come_in ["setup", "line", "singles", "comers"] (spA K spCome) := ok_come T
  refine fnA_ok T.D_bench_beat.F sc_bench_beat (fun as Ω P ⟨s, rs, t, c, por, e, _⟩ => by subst e; rfl) (fun cdv A outer s H E hr => ?_)
  refine ⟨_, (pss_cons (ps_asg (pe_call G_come_in (hr.mono (by omega)) rfl T.D_come_in.g T.D_come_in.F.kp T.D_come_in.b .nil pass0 (pa_cons (pv 0) (pa_cons (pe_ix (Dat.ixT (K := K) rfl) (pv 2) pe_int (fun _ _ => rfl)) (pa_cons (pe_ix (Dat.ixT (K := K) rfl) (pv 2) pe_int (fun _ _ => rfl)) (pa_cons (pv 3) pa_nil))))) (Dat.pgT (K := K) (n := 3) rfl rfl (pgs_cons (pg_name (i := 5) sc_bench_beat.nd rfl (.inl rfl)) (pgs_cons (pg_name (i := 6) sc_bench_beat.nd rfl (.inl rfl)) (pgs_cons (pg_name (i := 7) sc_bench_beat.nd rfl (.inl rfl)) pgs_nil)))))
    (pss_cons (ps_asg (pe_call G_fill_bench (hr.mono (by omega)) rfl T.D_fill_bench.g T.D_fill_bench.F.kp T.D_fill_bench.b .nil pass0 (pa_cons (pv 0) (pa_cons (pv 1) (pa_cons (pe_tup (pa_cons (pv 5) (pa_cons (pv 6) (pa_cons (pe_ix (Dat.ixT (K := K) rfl) (pv 2) pe_int (fun _ _ => rfl)) pa_nil)))) (pa_cons (pv 4) pa_nil))))) (Dat.pgT (K := K) (n := 4) rfl rfl (pgs_cons (pg_name (i := 8) sc_bench_beat.nd rfl (.inl rfl)) (pgs_cons (pg_name (i := 9) sc_bench_beat.nd rfl (.inl rfl)) (pgs_cons (pg_name (i := 10) sc_bench_beat.nd rfl (.inl rfl)) (pgs_cons (pg_name (i := 11) sc_bench_beat.nd rfl (.inl rfl)) pgs_nil))))))
    (pss_one (ps_ret (pe_tup (pa_cons (pv 8) (pa_cons (pe_tup (pa_cons (pv 9) (pa_cons (pv 10) (pa_cons (pv 7) pa_nil)))) (pa_cons (pv 11) pa_nil)))))))), ?_⟩
  rintro as Ω P ⟨s, rs, t, c, por, rfl, so, ro, to, co, h⟩
  have tl := to.l
  refine s_seq (s_asgG (e_call (a_cons (e_var rfl (a_cons (e_op (e_var rfl (e_int (r_ixT rfl (a_cons (e_op (e_var rfl (e_int (r_ixT rfl (a_cons (e_var rfl (a_nil ⟨s, t.line, t.sg, c, rfl, so, co, by omega, ?_⟩)))))))))))))))))
  refine g_tup rfl (gs_cons (g_name ⟨rfl, gs_cons (g_name ⟨rfl, gs_cons (g_name ⟨rfl, gs_nil ?_⟩)⟩)⟩))
  have hz := comeL_ok so co.z to.z to.l (x := (t.line, 0))
  refine s_seq (s_asgG (e_call (a_cons (e_var rfl (a_cons (e_var rfl (a_cons (e_tupD (a_cons (e_var rfl (a_cons (e_var rfl (a_cons (e_op (e_var rfl (e_int (r_ixT rfl (a_nil ⟨_, .cons (.cons (.cons .nil)), rfl, a_cons (e_var rfl (a_nil ⟨s, rs, _, _, _, por, rfl, so, ro, hz.1, fun us => ?_⟩))⟩))))))))))))))))))
  refine g_tup rfl (gs_cons (g_name ⟨rfl, gs_cons (g_name ⟨rfl, gs_cons (g_name ⟨rfl, gs_cons (g_name ⟨rfl, gs_nil ?_⟩)⟩)⟩)⟩))
  exact s_ret (e_tupD (a_cons (e_var rfl (a_cons (e_tupD (a_cons (e_var rfl (a_cons (e_var rfl (a_cons (e_var rfl (a_nil ⟨_, .cons (.cons (.cons .nil)), rfl, a_cons (e_var rfl (a_nil ⟨_, .cons (.cons (.cons .nil)), rfl, h _⟩))⟩))))))))))))
end
end K38

set_option Elab.async false
set_option linter.all false
set_option maxRecDepth 100000
set_option maxHeartbeats 1000000
namespace K38
open PySem PySem.Spec PyProof.Rows L2 Dat LamX Clo
local macro_rules | `(tactic| trivial) => `(tactic| (first
  | (with_reducible refine s_seq ?_)
  | (with_reducible refine s_asg ?_)
  | (with_reducible refine s_ret ?_)
  | (with_reducible refine s_drop ?_)
  | (with_reducible refine s_next ?_)
  | (with_reducible refine s_retN ?_)
  | (with_reducible refine s_brk ?_)
  | (with_reducible refine s_cont ?_)
  | (with_reducible refine s_if ?_)
  | (with_reducible refine e_int ?_)
  | (with_reducible refine e_str ?_)
  | (with_reducible refine e_bl ?_)
  | (with_reducible refine e_non ?_)
  | (with_reducible refine e_ty ?_)
  | (with_reducible refine e_tupD ?_)
  | (with_reducible refine e_lstD ?_)
  | (with_reducible refine e_op ?_)
  | (with_reducible refine e_un ?_)
  | (with_reducible refine e_then ?_)
  | (with_reducible refine e_cb ?_)
  | (with_reducible refine e_call ?_)
  | (with_reducible refine e_if ?_)
  | (with_reducible refine e_chain ?_)
  | (with_reducible refine e_andV ?_)
  | (with_reducible refine e_orV ?_)
  | (with_reducible refine e_notV ?_)
  | (with_reducible refine a_cons ?_)
  | (with_reducible refine a_nil ?_)
  | (with_reducible refine t_test ?_)
  | (with_reducible refine t_B ?_)
  | (with_reducible refine t_not ?_)
  | (with_reducible refine t_and ?_)
  | (with_reducible refine t_or ?_)
  | (with_reducible refine r_I0i ?_)
  | (with_reducible refine r_I0b ?_)
  | (with_reducible refine r_neg ?_)
  | (with_reducible refine r_isN ?_)
  | (with_reducible refine r_notN ?_)
  | (with_reducible refine c_lenT ?_)
  | (with_reducible refine c_lenL ?_)
  | (with_reducible refine c_intI ?_)
  | (with_reducible refine c_intB ?_)
  | (with_reducible refine c_max2 ?_)
  | (with_reducible refine c_min2 ?_)
  | (with_reducible refine c_abs ?_)
  | (with_reducible refine r_tupL ?_)
  | (with_reducible refine r_tupT ?_)
  | (with_reducible refine c_allM ?_)
  | ((with_reducible apply e_var); (exact rfl))
  | ((with_reducible refine r_eq ?_ ?_); (exact rfl))
  | ((with_reducible refine r_ne ?_ ?_); (exact rfl))
  | (with_reducible refine c_isi kit_int ?_)
  | (with_reducible refine c_isi kit_bool ?_)
  | (with_reducible refine c_isi kit_tuple ?_)
  | (with_reducible refine c_isi kit_list ?_)
  | (with_reducible refine c_isi kit_str ?_)
  | ((with_reducible apply r_ixT); (exact rfl))
  | ((with_reducible apply dats_pack); (iterate 40 (first | exact Dats.nil | apply Dats.cons | skip)); (exact rfl))
  | (with_reducible refine s_asgG ?_) | (with_reducible refine g_name ?_) | ((with_reducible refine g_tup ?_ ?_); (exact rfl)) | (refine gs_nil ?_) | (refine gs_cons ?_) | (with_reducible refine ⟨rfl, ?_⟩)
  | (refine ⟨_, rfl, ?_⟩) | (refine ⟨_, _, rfl, ?_⟩) | (refine ⟨_, _, _, rfl, ?_⟩) | (with_reducible refine ⟨fun _ => ?_, fun _ => ?_⟩) | fail))
/-! ### a beat of the house -/
structure DsOk (s : Shop) (x : Fl) : Prop where
  z : ∀ z ∈ x.line, 1 ≤ z
  w : ∀ d ∈ x.ds, (d.1 = "group" ∨ d.1 = "single") ∧ 1 ≤ d.2
  l : 0 ≤ x.left
  e : dsum x.ds + x.left = s.n
theorem dsum_app {ds : List (Str × Int)} {d : Str × Int} : dsum (ds ++ [d]) = dsum ds + d.2 := by simp [dsum]
theorem DsOk.step {s : Shop} {x : Fl} {r : Rw} (h : DsOk s x) (ro : r.Ok seatWs) (f : feas x.line x.sg x.left r.d = true) : DsOk s (stepF x r) := by
  unfold stepF
  have el := h.e
  split
  · exact ⟨h.z, h.w, h.l, h.e⟩
  · next n1 =>
    split
    · next n2 =>
      rw [n2] at f
      obtain ⟨z, t, hl, hz⟩ := feas_group f
      have z1 := h.z z (by rw [hl]; exact List.mem_cons_self ..)
      have ef : front x.line = z := by rw [hl]; rfl
      rw [ef]
      refine ⟨fun y hy => h.z y (List.mem_of_mem_tail hy), fun d hd => ?_, by show 0 ≤ x.left - z; omega, ?_⟩
      · rcases List.mem_append.mp hd with hd | hd
        · exact h.w d hd
        · rw [List.mem_singleton.mp hd]
          exact ⟨.inl rfl, z1⟩
      · show dsum (x.ds ++ [_]) + (x.left - z) = s.n
        rw [dsum_app]
        show dsum x.ds + z + (x.left - z) = s.n
        omega
    · next n2 =>
      have e : r.d = "single" := by
        rcases seat3 ro with e | e | e
        · exact absurd e n2
        · exact e
        · exact absurd e n1
      rw [e] at f
      have := feas_single f
      refine ⟨h.z, fun d hd => ?_, by show 0 ≤ x.left - 1; omega, ?_⟩
      · rcases List.mem_append.mp hd with hd | hd
        · exact h.w d hd
        · rw [List.mem_singleton.mp hd]
          exact ⟨.inr rfl, Int.le_refl 1⟩
      · show dsum (x.ds ++ [_]) + (x.left - 1) = s.n
        rw [dsum_app]
        show dsum x.ds + 1 + (x.left - 1) = s.n
        omega
theorem DsOk.fill {s : Shop} {rs : List Rw} {por : Int} (ro : ∀ r ∈ rs, r.Ok seatWs) : ∀ (n : Nat) {x : Fl}, DsOk s x → DsOk s (fill rs por n x)
  | 0, _, h => h
  | n + 1, x, h => by
    unfold K38.fill
    split
    · exact h
    · next r e =>
      have m := List.mem_of_find?_eq_some e
      have p := fits_feas (List.find?_some e)
      split
      · exact h.step (ro r m) p
      · exact DsOk.fill ro n (h.step (ro r m) p)
theorem dsum_len : ∀ {ds : List (Str × Int)}, (∀ d ∈ ds, 1 ≤ d.2) → (ds.length : Int) ≤ dsum ds
  | [], _ => Int.le_refl 0
  | d :: ds, h => by
    have := dsum_len (ds := ds) fun x hx => h x (List.mem_cons_of_mem _ hx)
    have := h d List.mem_cons_self
    show ((ds.length + 1 : Nat) : Int) ≤ d.2 + dsum ds
    omega
theorem beat_ds {s : Shop} {rs : List Rw} {por : Int} {t : St} {c : Com} (so : s.Ok) (ro : ∀ r ∈ rs, r.Ok seatWs) (co : c.Ok s) (to : StOk s t) : DsOk s (beatF s rs por t c) := by
  have h := comeL_ok so co.z to.z to.l (x := (t.line, 0))
  have := so.n1
  exact DsOk.fill ro _ ⟨fun z hz => (h.1 z hz).1, nofun, by show 0 ≤ s.n; omega, by show (0 : Int) + s.n = s.n; omega⟩
theorem DsOk.len {s : Shop} {x : Fl} (so : s.Ok) (h : DsOk s x) : x.ds.length ≤ 4 := by
  have := dsum_len fun d hd => (h.w d hd).2
  have := so.n4
  have := h.e
  have := h.l
  omega
structure Hs where
  line : List Int
  sg : Int
  ts : List Tub
  m1 : Int
  m2 : Int
abbrev Hs.enc (h : Hs) : PyData := .tuple [itup h.line, .int h.sg, encT h.ts, .tuple [.int h.m1, .int h.m2]]
abbrev hSt (h : Hs) : St := ⟨h.line, h.sg, h.m1⟩
structure Bil where
  ds : List (Str × Int)
  e : Int
  a : Int
  op : List Int
  sv : Int
  un : Int
  me : Int
abbrev Bil.enc (b : Bil) : PyData := .tuple [.tuple (encD b.ds), .int b.e, .int b.a, itup b.op, .int b.sv, .int b.un, .int b.me]
def waitF (F : Fl) : Int := (F.line.length : Int) + F.sg
def hF (s : Shop) (rs : List Rw) (h : Hs) (c : Com) : Fl := beatF s rs (psum h.ts) (hSt h) c
def hX (s : Shop) (ts : List Rw) (h : Hs) (F : Fl) : Tl := openT s ts (dsum F.ds) (waitF F) 9 ⟨h.ts, h.m2, []⟩
abbrev nextOf (s : Shop) (F : Fl) (X : Tl) : Hs := ⟨F.line, F.sg, leftT s (dsum F.ds) X.ts, F.mood, X.mood⟩
abbrev bilOf (s : Shop) (h : Hs) (c : Com) (F : Fl) (X : Tl) : Bil := ⟨F.ds, emptyF F, awayF s (hSt h) c, X.op, dsum F.ds - lackT (dsum F.ds) X.ts, lackT (dsum F.ds) X.ts, meltT s (dsum F.ds) X.ts⟩
def hN (s : Shop) (rs ts : List Rw) (h : Hs) (c : Com) : Hs := nextOf s (hF s rs h c) (hX s ts h (hF s rs h c))
def hB (s : Shop) (rs ts : List Rw) (h : Hs) (c : Com) : Bil := bilOf s h c (hF s rs h c) (hX s ts h (hF s rs h c))
structure TubOk (t : Tub) : Prop where
  a0 : 0 ≤ t.1
  a2 : t.1 ≤ 2
  p1 : 1 ≤ t.2
  p4 : t.2 ≤ 4
structure HsOk (s : Shop) (h : Hs) : Prop where
  st : StOk s (hSt h)
  l2 : h.ts.length ≤ 2
  tb : ∀ t ∈ h.ts, TubOk t
  al : ∀ t ∈ h.ts, t.1 < s.life
  a0 : 0 ≤ h.m2
  a2 : h.m2 ≤ 2
section
variable {P : Program} {w : World} {K : PySem.W.Frag} [Tb K] {mg : Str → Option Value} {base : Heap}
theorem sw_g {t : TS} {Γ Γ' : List (Option Av)} {Ω : AH} {E : EndA} (e : Γ = Γ') (h : SW K t Γ' Ω E) : SW K t Γ Ω E := e ▸ h
abbrev spHB : ASp := fun as Ω P => ∃ (s : Shop) (rs ts : List Rw) (h : Hs) (c : Com), as = [.dat s.enc, .dat (plan rs ts), .dat h.enc, .dat c.enc] ∧ s.Ok ∧ PlOk rs ts ∧ HsOk s h ∧ c.Ok s ∧
  ∀ F X, F = hF s rs h c → X = hX s ts h F → ∀ u, P (.dat (.tuple [(nextOf s F X).enc, (bilOf s h c F X).enc, u])) Ω
theorem ok_hb (T : Top K mg) : FnOk P w K mg base CX0 5 T.f_house_beat T.d_house_beat ["setup", "rule", "standing", "comers"] (spA K spHB) := by
  have G_bench_beat : FnOk P w K mg base CX0 4 T.f_bench_beat T.d_bench_beat ["setup", "rule", "standing", "comers", "portions"] (spA K spBeat) := ok_beat T
  have G_tub_beat : FnOk P w K mg base CX0 4 T.f_tub_beat T.d_tub_beat ["setup", "rule", "standing", "asked", "waiting"] (spA K spTB) := ok_tb T
  have G_seated : FnOk P w K mg base CX0 1 T.f_seated T.d_seated ["deeds"] (spA K spSeated) := ok_seated T
  have G_portions_open : FnOk P w K mg base CX0 1 T.f_portions_open T.d_portions_open ["tubs"] (spA K spPo) := ok_po T
  refine fnA_ok T.D_house_beat.F sc_house_beat (fun as Ω P ⟨s, rs, ts, h, c, e, _⟩ => by subst e; rfl) (fun cdv A outer s H E hr => ?_)
  refine ⟨_, (pss_cons (ps_asg (pv 2) (Dat.pgT (K := K) (n := 4) rfl rfl (pgs_cons (pg_name (i := 4) sc_house_beat.nd rfl (.inl rfl)) (pgs_cons (pg_name (i := 5) sc_house_beat.nd rfl (.inl rfl)) (pgs_cons (pg_name (i := 6) sc_house_beat.nd rfl (.inl rfl)) (pgs_cons (pg_name (i := 7) sc_house_beat.nd rfl (.inl rfl)) pgs_nil))))))
    (pss_cons (ps_asg (pe_call G_bench_beat (hr.mono (by omega)) rfl T.D_bench_beat.g T.D_bench_beat.F.kp T.D_bench_beat.b .nil pass0 (pa_cons (pv 0) (pa_cons (pe_ix (Dat.ixT (K := K) rfl) (pv 1) pe_int (fun _ _ => rfl)) (pa_cons (pe_tup (pa_cons (pv 4) (pa_cons (pv 5) (pa_cons (pe_ix (Dat.ixT (K := K) rfl) (pv 7) pe_int (fun _ _ => rfl)) pa_nil)))) (pa_cons (pv 3) (pa_cons (pe_call G_portions_open (hr.mono (by omega)) rfl T.D_portions_open.g T.D_portions_open.F.kp T.D_portions_open.b .nil pass0 (pa_cons (pv 6) pa_nil)) pa_nil)))))) (Dat.pgT (K := K) (n := 3) rfl rfl (pgs_cons (pg_name (i := 8) sc_house_beat.nd rfl (.inl rfl)) (pgs_cons (pg_name (i := 9) sc_house_beat.nd rfl (.inl rfl)) (pgs_cons (pg_name (i := 10) sc_house_beat.nd rfl (.inl rfl)) pgs_nil)))))
    (pss_cons (ps_set (i := 11) sc_house_beat.nd rfl (.inl rfl) (pe_op op_add (pe_callB (Dat.lenQ (K := K) rfl) rfl T.b_len bt_len (pa_cons (pe_ix (Dat.ixT (K := K) rfl) (pv 8) pe_int (fun _ _ => rfl)) pa_nil)) (pe_ix (Dat.ixT (K := K) rfl) (pv 8) pe_int (fun _ _ => rfl))))
    (pss_cons (ps_asg (pe_call G_tub_beat (hr.mono (by omega)) rfl T.D_tub_beat.g T.D_tub_beat.F.kp T.D_tub_beat.b .nil pass0 (pa_cons (pv 0) (pa_cons (pe_ix (Dat.ixT (K := K) rfl) (pv 1) pe_int (fun _ _ => rfl)) (pa_cons (pe_tup (pa_cons (pv 6) (pa_cons (pe_ix (Dat.ixT (K := K) rfl) (pv 7) pe_int (fun _ _ => rfl)) pa_nil))) (pa_cons (pe_call G_seated (hr.mono (by omega)) rfl T.D_seated.g T.D_seated.F.kp T.D_seated.b .nil pass0 (pa_cons (pe_ix (Dat.ixT (K := K) rfl) (pv 9) pe_int (fun _ _ => rfl)) pa_nil)) (pa_cons (pv 11) pa_nil)))))) (Dat.pgT (K := K) (n := 3) rfl rfl (pgs_cons (pg_name (i := 12) sc_house_beat.nd rfl (.inl rfl)) (pgs_cons (pg_name (i := 13) sc_house_beat.nd rfl (.inl rfl)) (pgs_cons (pg_name (i := 14) sc_house_beat.nd rfl (.inl rfl)) pgs_nil)))))
    (pss_cons (ps_set (i := 15) sc_house_beat.nd rfl (.inl rfl) (pe_tup (pa_cons (pe_ix (Dat.ixT (K := K) rfl) (pv 8) pe_int (fun _ _ => rfl)) (pa_cons (pe_ix (Dat.ixT (K := K) rfl) (pv 8) pe_int (fun _ _ => rfl)) (pa_cons (pe_ix (Dat.ixT (K := K) rfl) (pv 12) pe_int (fun _ _ => rfl)) (pa_cons (pe_tup (pa_cons (pe_ix (Dat.ixT (K := K) rfl) (pv 8) pe_int (fun _ _ => rfl)) (pa_cons (pe_ix (Dat.ixT (K := K) rfl) (pv 12) pe_int (fun _ _ => rfl)) pa_nil))) pa_nil))))))
    (pss_one (ps_ret (pe_tup (pa_cons (pv 15) (pa_cons (pe_op (Dat.catT (K := K) rfl) (pv 9) (pv 13)) (pa_cons (pe_tup (pa_cons (pv 10) (pa_cons (pv 14) pa_nil))) pa_nil))))))))))), ?_⟩
  rintro as Ω P ⟨s, rs, ts, h, c, rfl, so, po, ho, co, hq⟩
  obtain ⟨line, sg, tb, m1, m2⟩ := h
  have l2 : tb.length ≤ 2 := ho.l2
  have dk : DsOk s (hF s rs ⟨line, sg, tb, m1, m2⟩ c) := beat_ds so po.s.all co ho.st
  refine s_seq (s_asgG (e_var rfl (g_tup rfl (gs_cons (g_name ⟨rfl, gs_cons (g_name ⟨rfl, gs_cons (g_name ⟨rfl, gs_cons (g_name ⟨rfl, gs_nil ?_⟩)⟩)⟩)⟩)))))
  refine s_seq (s_asgG (e_call (a_cons (e_var rfl (a_cons (e_op (e_var rfl (e_int (r_ixT rfl (a_cons (e_tupD (a_cons (e_var rfl (a_cons (e_var rfl (a_cons (e_op (e_var rfl (e_int (r_ixT rfl (a_nil ⟨_, .cons (.cons (.cons .nil)), rfl, a_cons (e_var rfl (a_cons (e_call (a_cons (e_var rfl (a_nil ⟨tb, rfl, by omega, a_nil ⟨s, rs, ⟨line, sg, m1⟩, c, psum tb, rfl, so, po.s, ho.st, co, fun u => ?_⟩⟩))))))⟩)))))))))))))))))))))
  obtain ⟨F, eF⟩ : ∃ F, F = beatF s rs (psum tb) ⟨line, sg, m1⟩ c := ⟨_, rfl⟩
  have hq1 := fun X e => hq F X eF e
  replace dk : DsOk s F := by
    rw [eF]
    exact dk
  have dl := dk.len so
  clear hq
  rw [← eF]
  clear eF
  refine g_tup rfl (gs_cons (g_name ⟨rfl, gs_cons (g_name ⟨rfl, gs_cons (g_name ⟨rfl, gs_nil ?_⟩)⟩)⟩))
  refine s_seq (s_asg (e_op (e_cb (a_cons (e_op (e_var rfl (e_int (r_ixT rfl (a_nil (c_lenT (e_op (e_var rfl (e_int (r_ixT rfl (r_I0i ?_)))))))))))))))
  rw [List.length_map]
  refine sw_g (Γ' := [some (.dat s.enc), some (.dat (plan rs ts)), some (.dat (Hs.enc ⟨line, sg, tb, m1, m2⟩)), some (.dat c.enc), some (.dat (itup line)), some (.dat (.int sg)), some (.dat (encT tb)), some (.dat (.tuple [.int m1, .int m2])), some (.dat (stOf F).enc), some (.dat (.tuple [.tuple (encD F.ds), .int (emptyF F), .int (awayF s ⟨line, sg, m1⟩ c)])), some (.dat u), some (.dat (.int (waitF F))), none, none, none, none]) rfl ?_
  refine s_seq (s_asgG (e_call (a_cons (e_var rfl (a_cons (e_op (e_var rfl (e_int (r_ixT rfl (a_cons (e_tupD (a_cons (e_var rfl (a_cons (e_op (e_var rfl (e_int (r_ixT rfl (a_nil ⟨_, .cons (.cons .nil), rfl, a_cons (e_call (a_cons (e_op (e_var rfl (e_int (r_ixT rfl (a_nil ⟨F.ds, rfl, by omega, a_cons (e_var rfl (a_nil ⟨s, ts, tb, m2, dsum F.ds, waitF F, rfl, so, po.t, l2, fun us => ?_⟩))⟩)))))))⟩)))))))))))))))))))
  obtain ⟨X, eX⟩ : ∃ X, X = openT s ts (dsum F.ds) (waitF F) 9 ⟨tb, m2, []⟩ := ⟨_, rfl⟩
  have hq2 := hq1 X eX
  clear hq1
  rw [← eX]
  clear eX
  refine g_tup rfl (gs_cons (g_name ⟨rfl, gs_cons (g_name ⟨rfl, gs_cons (g_name ⟨rfl, gs_nil ?_⟩)⟩)⟩))
  refine sw_g (Γ' := [some (.dat s.enc), some (.dat (plan rs ts)), some (.dat (Hs.enc ⟨line, sg, tb, m1, m2⟩)), some (.dat c.enc), some (.dat (itup line)), some (.dat (.int sg)), some (.dat (encT tb)), some (.dat (.tuple [.int m1, .int m2])), some (.dat (stOf F).enc), some (.dat (.tuple [.tuple (encD F.ds), .int (emptyF F), .int (awayF s ⟨line, sg, m1⟩ c)])), some (.dat u), some (.dat (.int (waitF F))), some (.dat (.tuple [encT (leftT s (dsum F.ds) X.ts), .int X.mood])), some (.dat (.tuple (wordT s X (dsum F.ds)))), some (.dat (.list (us.map PyData.int))), none]) rfl ?_
  refine s_seq (s_asg (e_tupD (a_cons (e_op (e_var rfl (e_int (r_ixT rfl ?_)))))))
  refine a_cons (e_op (e_var rfl (e_int (r_ixT rfl ?_))))
  refine a_cons (e_op (e_var rfl (e_int (r_ixT rfl ?_))))
  refine a_cons (e_tupD (a_cons (e_op (e_var rfl (e_int (r_ixT rfl ?_))))))
  refine a_cons (e_op (e_var rfl (e_int (r_ixT rfl ?_))))
  refine a_nil ⟨_, .cons (.cons .nil), rfl, ?_⟩
  refine a_nil ⟨_, .cons (.cons (.cons (.cons .nil))), rfl, ?_⟩
  refine s_ret (e_tupD (a_cons (e_var rfl ?_)))
  refine a_cons (e_op (e_var rfl (e_var rfl (r_catT (Nat.le_of_ble_eq_true rfl) ?_))))
  refine a_cons (e_tupD (a_cons (e_var rfl (a_cons (e_var rfl ?_)))))
  refine a_nil ⟨_, .cons (.cons .nil), rfl, ?_⟩
  refine a_nil ⟨_, .cons (.cons (.cons .nil)), rfl, ?_⟩
  exact hq2 _
end
end K38

set_option Elab.async false
set_option linter.all false
set_option maxRecDepth 100000
set_option maxHeartbeats 1000000
namespace K38
open PySem PySem.Spec PyProof.Rows L2 Dat LamX Clo
local macro_rules | `(tactic| trivial) => `(tactic| (first
  | (with_reducible refine s_seq ?_)
  | (with_reducible refine s_asg ?_)
  | (with_reducible refine s_ret ?_)
  | (with_reducible refine s_drop ?_)
  | (with_reducible refine s_next ?_)
  | (with_reducible refine s_retN ?_)
  | (with_reducible refine s_brk ?_)
  | (with_reducible refine s_cont ?_)
  | (with_reducible refine s_if ?_)
  | (with_reducible refine e_int ?_)
  | (with_reducible refine e_str ?_)
  | (with_reducible refine e_bl ?_)
  | (with_reducible refine e_non ?_)
  | (with_reducible refine e_ty ?_)
  | (with_reducible refine e_tupD ?_)
  | (with_reducible refine e_lstD ?_)
  | (with_reducible refine e_op ?_)
  | (with_reducible refine e_un ?_)
  | (with_reducible refine e_then ?_)
  | (with_reducible refine e_cb ?_)
  | (with_reducible refine e_call ?_)
  | (with_reducible refine e_if ?_)
  | (with_reducible refine e_chain ?_)
  | (with_reducible refine e_andV ?_)
  | (with_reducible refine e_orV ?_)
  | (with_reducible refine e_notV ?_)
  | (with_reducible refine a_cons ?_)
  | (with_reducible refine a_nil ?_)
  | (with_reducible refine t_test ?_)
  | (with_reducible refine t_B ?_)
  | (with_reducible refine t_not ?_)
  | (with_reducible refine t_and ?_)
  | (with_reducible refine t_or ?_)
  | (with_reducible refine r_I0i ?_)
  | (with_reducible refine r_I0b ?_)
  | (with_reducible refine r_neg ?_)
  | (with_reducible refine r_isN ?_)
  | (with_reducible refine r_notN ?_)
  | (with_reducible refine c_lenT ?_)
  | (with_reducible refine c_lenL ?_)
  | (with_reducible refine c_intI ?_)
  | (with_reducible refine c_intB ?_)
  | (with_reducible refine c_max2 ?_)
  | (with_reducible refine c_min2 ?_)
  | (with_reducible refine c_abs ?_)
  | (with_reducible refine r_tupL ?_)
  | (with_reducible refine r_tupT ?_)
  | (with_reducible refine c_allM ?_)
  | ((with_reducible apply e_var); (exact rfl))
  | ((with_reducible refine r_eq ?_ ?_); (exact rfl))
  | ((with_reducible refine r_ne ?_ ?_); (exact rfl))
  | (with_reducible refine c_isi kit_int ?_)
  | (with_reducible refine c_isi kit_bool ?_)
  | (with_reducible refine c_isi kit_tuple ?_)
  | (with_reducible refine c_isi kit_list ?_)
  | (with_reducible refine c_isi kit_str ?_)
  | ((with_reducible apply r_ixT); (exact rfl))
  | ((with_reducible apply dats_pack); (iterate 40 (first | exact Dats.nil | apply Dats.cons | skip)); (exact rfl))
  | (with_reducible refine s_asgG ?_) | (with_reducible refine g_name ?_) | ((with_reducible refine g_tup ?_ ?_); (exact rfl)) | (refine gs_nil ?_) | (refine gs_cons ?_) | (with_reducible refine ⟨rfl, ?_⟩)
  | (refine ⟨_, rfl, ?_⟩) | (refine ⟨_, _, rfl, ?_⟩) | (refine ⟨_, _, _, rfl, ?_⟩) | (with_reducible refine ⟨fun _ => ?_, fun _ => ?_⟩) | fail))
/-! ### bounds of what a beat leaves; the house run -/
theorem eats_ok : ∀ {ts : List Tub} {l : Int}, 0 ≤ l → (∀ t ∈ ts, 0 ≤ t.2) → (∀ e ∈ eats l ts, 0 ≤ e) ∧ 0 ≤ (eats l ts).sum ∧ (eats l ts).sum ≤ l
  | [], l, h, _ => ⟨nofun, Int.le_refl 0, h⟩
  | t :: ts, l, h, ht => by
    have h0 := ht t List.mem_cons_self
    have hm : 0 ≤ eatM t.2 l ∧ eatM t.2 l ≤ l := by
      unfold eatM
      split <;> omega
    have g := eats_ok (ts := ts) (l := l - eatM t.2 l) (by omega) fun x hx => ht x (List.mem_cons_of_mem _ hx)
    refine ⟨fun e he => ?_, ?_, ?_⟩
    · rcases List.mem_cons.mp he with rfl | he
      · exact hm.1
      · exact g.1 e he
    · show 0 ≤ eatM t.2 l + (eats (l - eatM t.2 l) ts).sum
      omega
    · show eatM t.2 l + (eats (l - eatM t.2 l) ts).sum ≤ l
      omega
theorem older_ok {asked : Int} {ts : List Tub} (h : 0 ≤ asked) (ht : ∀ t ∈ ts, TubOk t) {t : Tub} (m : t ∈ older asked ts) : 1 ≤ t.1 ∧ t.1 ≤ 3 ∧ 1 ≤ t.2 ∧ t.2 ≤ 4 := by
  unfold older at m
  obtain ⟨z, hz, rfl⟩ := List.mem_map.mp m
  obtain ⟨hz, hg⟩ := List.mem_filter.mp hz
  have hg := of_decide_eq_true hg
  have z1 := ht z.1 (List.of_mem_zip hz).1
  have z2 := (eats_ok h fun t m => by have := (ht t m).p1; omega).1 z.2 (List.of_mem_zip hz).2
  have := z1.a0
  have := z1.a2
  have := z1.p4
  exact ⟨by show 1 ≤ z.1.1 + 1; omega, by show z.1.1 + 1 ≤ 3; omega, by show 1 ≤ z.1.2 - z.2; omega, by show z.1.2 - z.2 ≤ 4; omega⟩
theorem left_ok {s : Shop} {asked : Int} {ts : List Tub} (so : s.Ok) (h : 0 ≤ asked) (ht : ∀ t ∈ ts, TubOk t) {t : Tub} (m : t ∈ leftT s asked ts) : TubOk t := by
  obtain ⟨m, hl⟩ := List.mem_filter.mp m
  have hl := of_decide_eq_true hl
  have g := older_ok h ht m
  have := so.l3
  exact ⟨by omega, by omega, g.2.2.1, g.2.2.2⟩
theorem left_len {s : Shop} {asked : Int} {ts : List Tub} : (leftT s asked ts).length ≤ ts.length := Nat.le_trans (List.length_filter_le _ _) older_len
theorem sum_le4 : ∀ {xs : List Int}, (∀ x ∈ xs, 0 ≤ x ∧ x ≤ 4) → 0 ≤ xs.sum ∧ xs.sum ≤ 4 * (xs.length : Int)
  | [], _ => ⟨Int.le_refl 0, Int.le_refl 0⟩
  | x :: xs, h => by
    have g := sum_le4 (xs := xs) fun y hy => h y (List.mem_cons_of_mem _ hy)
    have := h x List.mem_cons_self
    rw [List.sum_cons, List.length_cons]
    omega
theorem melt_ok {s : Shop} {asked : Int} {ts : List Tub} (h : 0 ≤ asked) (ht : ∀ t ∈ ts, TubOk t) (l2 : ts.length ≤ 2) : 0 ≤ meltT s asked ts ∧ meltT s asked ts ≤ 8 := by
  have g := sum_le4 (xs := ((older asked ts).filter fun t => decide (t.1 = s.life)).map (·.2)) fun x hx => by
    obtain ⟨t, ht', rfl⟩ := List.mem_map.mp hx
    have := older_ok h ht (List.mem_filter.mp ht').1
    omega
  have l := List.length_filter_le (fun t : Tub => decide (t.1 = s.life)) (older asked ts)
  have l' := @older_len asked ts
  rw [List.length_map] at g
  unfold meltT
  omega
structure TlOk (x : Tl) : Prop where
  l2 : x.ts.length ≤ 2
  tb : ∀ t ∈ x.ts, TubOk t
  a0 : 0 ≤ x.mood
  a2 : x.mood ≤ 2
  ol : x.op.length ≤ x.ts.length
  ob : ∀ k ∈ x.op, 1 ≤ k ∧ k ≤ 4
theorem kind_ok {s : Shop} (so : s.Ok) (w : Str) : 1 ≤ kindOf s w ∧ kindOf s w ≤ 4 := by
  unfold kindOf
  rcases kinds_cases so with ⟨a, e⟩ | ⟨a, b, e⟩
  · have := so.kb a (by rw [e]; simp)
    rw [e]
    split <;> exact this
  · have h1 := so.kb a (by rw [e]; simp)
    have h2 := so.kb b (by rw [e]; simp)
    rw [e]
    split
    · exact h1
    · exact h2
theorem TlOk.open {s : Shop} {rs : List Rw} {asked wait : Int} (so : s.Ok) (ro : ∀ r ∈ rs, r.Ok tubWs) : ∀ (n : Nat) {x : Tl}, TlOk x → TlOk (openT s rs asked wait n x)
  | 0, _, h => h
  | n + 1, x, h => by
    unfold openT
    split
    · exact h
    · next r e =>
      have p : tfeas x.ts r.d = true := by
        have := List.find?_some e
        simp only [tfits, fitG, Bool.and_eq_true] at this
        exact this.2.1
      have ok := ro r (List.mem_of_find?_eq_some e)
      split
      · next hd =>
        rw [stepT, if_pos hd]
        exact ⟨h.l2, h.tb, ok.a0, ok.a2, h.ol, h.ob⟩
      · next hd =>
        refine TlOk.open so ro n ?_
        rw [stepT, if_neg hd]
        rw [tfeas, if_neg hd] at p
        have := of_decide_eq_true p
        have ko := kind_ok so r.d
        have := h.ol
        refine ⟨?_, fun t ht => ?_, ok.a0, ok.a2, ?_, fun k hk => ?_⟩
        · show (x.ts ++ [_]).length ≤ 2
          rw [List.length_append]
          show x.ts.length + 1 ≤ 2
          omega
        · rcases List.mem_append.mp ht with ht | ht
          · exact h.tb t ht
          · rw [List.mem_singleton.mp ht]
            exact ⟨Int.le_refl 0, by show (0 : Int) ≤ 2; decide, ko.1, ko.2⟩
        · show (x.op ++ [_]).length ≤ (x.ts ++ [_]).length
          rw [List.length_append, List.length_append]
          show x.op.length + 1 ≤ x.ts.length + 1
          omega
        · rcases List.mem_append.mp hk with hk | hk
          · exact h.ob k hk
          · rw [List.mem_singleton.mp hk]
            exact ko
structure BilOk (b : Bil) : Prop where
  l : b.ds.length ≤ 4
  w : ∀ d ∈ b.ds, (d.1 = "group" ∨ d.1 = "single") ∧ 1 ≤ d.2 ∧ d.2 ≤ 4
  e0 : 0 ≤ b.e
  e4 : b.e ≤ 4
  a0 : -100 ≤ b.a
  a1 : b.a ≤ 100
  ol : b.op.length ≤ 2
  ob : ∀ k ∈ b.op, 1 ≤ k ∧ k ≤ 4
  s0 : 0 ≤ b.sv
  s4 : b.sv ≤ 4
  u0 : 0 ≤ b.un
  u4 : b.un ≤ 4
  m0 : 0 ≤ b.me
  m8 : b.me ≤ 8
theorem dsum_mem : ∀ {ds : List (Str × Int)}, (∀ d ∈ ds, 1 ≤ d.2) → ∀ d ∈ ds, d.2 ≤ dsum ds
  | x :: ds, h, d, hd => by
    have g := dsum_mem (ds := ds) fun x hx => h x (List.mem_cons_of_mem _ hx)
    have l := dsum_len (ds := ds) fun x hx => h x (List.mem_cons_of_mem _ hx)
    have := h x List.mem_cons_self
    show d.2 ≤ x.2 + dsum ds
    rcases List.mem_cons.mp hd with rfl | hd
    · omega
    · have := g d hd
      omega
theorem hX_ok {s : Shop} {rs ts : List Rw} {h : Hs} {F : Fl} (so : s.Ok) (po : PlOk rs ts) (ho : HsOk s h) : TlOk (hX s ts h F) :=
  TlOk.open so po.t.all 9 ⟨ho.l2, ho.tb, ho.a0, ho.a2, Nat.zero_le _, nofun⟩
theorem comeL_away {s : Shop} (so : s.Ok) : ∀ {gs : List Int} {x : List Int × Int}, (∀ g ∈ gs, g ∈ s.sizes) → 0 ≤ x.2 → 0 ≤ (comeL s.r1 gs x).2 ∧ (comeL s.r1 gs x).2 ≤ x.2 + 4 * (gs.length : Int)
  | [], x, _, h => ⟨h, by show x.2 ≤ x.2 + 0; omega⟩
  | g :: gs, x, hg, h => by
    have b := so.zb g (hg g List.mem_cons_self)
    have n4 := so.n4
    unfold comeL
    have q := comeL_away so (gs := gs) (x := if (x.1.length : Int) < s.r1 then (x.1 ++ [g], x.2) else (x.1, x.2 + g)) (fun z hz => hg z (List.mem_cons_of_mem _ hz)) (by split <;> (show 0 ≤ _; first | exact h | (show 0 ≤ x.2 + g; omega)))
    have e : (if (x.1.length : Int) < s.r1 then (x.1 ++ [g], x.2) else (x.1, x.2 + g)).2 ≤ x.2 + 4 := by
      split
      · show x.2 ≤ x.2 + 4
        omega
      · show x.2 + g ≤ x.2 + 4
        omega
    rw [List.length_cons]
    omega
theorem hB_ok {s : Shop} {rs ts : List Rw} {h : Hs} {c : Com} (so : s.Ok) (po : PlOk rs ts) (ho : HsOk s h) (co : c.Ok s) : BilOk (hB s rs ts h c) := by
  have dk : DsOk s (hF s rs h c) := beat_ds so po.s.all co ho.st
  have xk : TlOk (hX s ts h (hF s rs h c)) := hX_ok so po ho
  have dl := dk.len so
  have ds1 := dsum_mem fun d hd => (dk.w d hd).2
  have ds0 := dsum_len fun d hd => (dk.w d hd).2
  have de := dk.e
  have dl0 := dk.l
  have n1 := so.n1
  have n4 := so.n4
  have sm := eats_ok (ts := (hX s ts h (hF s rs h c)).ts) (l := dsum (hF s rs h c).ds) (by omega) fun t m => by have := (xk.tb t m).p1; omega
  have mk := melt_ok (s := s) (asked := dsum (hF s rs h c).ds) (by omega) xk.tb xk.l2
  have aw := comeL_away so (gs := c.gs) (x := (h.line, 0)) co.z (Int.le_refl 0)
  have cf := comeF_ok co ho.st.g0 ho.st.g2
  have g1 := co.g
  have c11 := so.c11
  have k1 := co.k1
  have k0 := co.k0
  have c22 := so.c22
  have st0 : 0 ≤ h.sg := ho.st.g0
  have st2 : h.sg ≤ s.r2 := ho.st.g2
  have r22 := so.r22
  have xol := xk.ol
  have xl2 := xk.l2
  have ea : awayF s (hSt h) c = (comeL s.r1 c.gs (h.line, 0)).2 + c.k - comeF s h.sg c := rfl
  show BilOk (bilOf s h c (hF s rs h c) (hX s ts h (hF s rs h c)))
  have el : lackT (dsum (hF s rs h c).ds) (hX s ts h (hF s rs h c)).ts = dsum (hF s rs h c).ds - (eats (dsum (hF s rs h c).ds) (hX s ts h (hF s rs h c)).ts).sum := rfl
  have ee : 0 ≤ emptyF (hF s rs h c) ∧ emptyF (hF s rs h c) ≤ 4 := by
    unfold emptyF
    split <;> omega
  have cf' : 0 ≤ comeF s h.sg c ∧ comeF s h.sg c ≤ s.r2 - h.sg ∧ comeF s h.sg c ≤ c.k := cf
  have aw' : 0 ≤ (comeL s.r1 c.gs (h.line, 0)).2 ∧ (comeL s.r1 c.gs (h.line, 0)).2 ≤ 0 + 4 * (c.gs.length : Int) := aw
  refine ⟨dl, fun d hd => ⟨(dk.w d hd).1, (dk.w d hd).2, ?_⟩, ee.1, ee.2, ?_, ?_, ?_, xk.ob, ?_, ?_, ?_, ?_, mk.1, mk.2⟩
  · have := ds1 d hd
    omega
  · show -100 ≤ awayF s (hSt h) c
    rw [ea]
    omega
  · show awayF s (hSt h) c ≤ 100
    rw [ea]
    omega
  · exact Nat.le_trans xol xl2
  · show 0 ≤ dsum (hF s rs h c).ds - lackT (dsum (hF s rs h c).ds) (hX s ts h (hF s rs h c)).ts
    rw [el]
    omega
  · show dsum (hF s rs h c).ds - lackT (dsum (hF s rs h c).ds) (hX s ts h (hF s rs h c)).ts ≤ 4
    rw [el]
    omega
  · show 0 ≤ lackT (dsum (hF s rs h c).ds) (hX s ts h (hF s rs h c)).ts
    rw [el]
    omega
  · show lackT (dsum (hF s rs h c).ds) (hX s ts h (hF s rs h c)).ts ≤ 4
    rw [el]
    omega
theorem hN_ok {s : Shop} {rs ts : List Rw} {h : Hs} {c : Com} (so : s.Ok) (po : PlOk rs ts) (ho : HsOk s h) (co : c.Ok s) : HsOk s (hN s rs ts h c) := by
  have dk : DsOk s (hF s rs h c) := beat_ds so po.s.all co ho.st
  have xk : TlOk (hX s ts h (hF s rs h c)) := hX_ok so po ho
  have ds0 := dsum_len fun d hd => (dk.w d hd).2
  exact ⟨(beat_ok so po.s.all co ho.st).st, Nat.le_trans left_len xk.l2, fun t m => left_ok so (by omega) xk.tb m, fun t m => of_decide_eq_true (List.mem_filter.mp m).2, xk.a0, xk.a2⟩
def h0 : Hs := ⟨[], 0, [], 0, 0⟩
theorem h0_ok {s : Shop} (so : s.Ok) : HsOk s h0 := ⟨⟨nofun, by decide, by decide, so.r20, by decide, by decide⟩, by decide, nofun, nofun, by decide, by decide⟩
def hrun (s : Shop) (rs ts : List Rw) : List Com → Hs × List Bil → Hs × List Bil
  | [], x => x
  | c :: cs, x => hrun s rs ts cs (hN s rs ts x.1 c, x.2 ++ [hB s rs ts x.1 c])
theorem hrun_snoc {s : Shop} {rs ts : List Rw} {cs : List Com} {i : Nat} {c : Com} {x : Hs × List Bil} (e : cs[i]? = some c) : hrun s rs ts (cs.drop i) x = hrun s rs ts (cs.drop (i + 1)) (hN s rs ts x.1 c, x.2 ++ [hB s rs ts x.1 c]) := by
  obtain ⟨hi, hg⟩ := List.getElem?_eq_some_iff.mp e
  rw [List.drop_eq_getElem_cons hi, hg]
  rfl
abbrev encB (bs : List Bil) : List Av := (bs.map Bil.enc).map .dat
theorem com_at {cs : List Com} {i : Nat} {a : Av} (h : ((cs.map Com.enc).map Av.dat)[i]? = some a) : ∃ c, cs[i]? = some c ∧ a = .dat c.enc := by
  rw [List.getElem?_map, List.getElem?_map] at h
  cases e : cs[i]? with
  | none => rw [e] at h; cases h
  | some r =>
    rw [e] at h
    cases h
    exact ⟨r, rfl, rfl⟩
section
variable {P : Program} {w : World} {K : PySem.W.Frag} [Tb K] {mg : Str → Option Value} {base : Heap}
theorem fnA_okN {x : Str} {st : Stmt} {f : Addr} {fd : FuncData} {N ps : List Str} {dvs : List V} {k : Nat} {sp : ASp} {cw : Addr} (D : DefC K mg x st ps dvs f fd cw) (S : FnScope N ps (defScope st)) (len : ∀ as Ω P, sp as Ω P → as.length = ps.length)
    (hbody : ∀ (A : Around) (outer : List Env) (s : Shared) (H : Hp) (E : XK), Room k (A.deeper (envOfC x (defScope st) s.heap.objs.size f (.ref cw))) →
      ∃ t, PSs (cxOf CX0 P w K mg base N x (defScope st) f (.ref cw) A outer s H E).nox (defBody st) t ∧ ∀ as Ω P, sp as Ω P → SW K t (as.map some ++ List.replicate (N.length - as.length) none) Ω { nx := fun _ Ω' => P (.dat .none) Ω', rt := P }) :
    FnOk P w K mg base CX0 (k + 1) f fd ps (spA K sp) :=
  fnA_okC D S len fun A outer s H E hr => (hbody A outer s H E hr).elim fun t h => ⟨t, h.1.nox, h.2⟩
abbrev spHRun : ASp := fun as Ω P => ∃ (s : Shop) (rs ts : List Rw) (cs : List Com), as = [.dat s.enc, .dat (plan rs ts), .dat (.list (cs.map Com.enc)), .dat h0.enc] ∧ s.Ok ∧ PlOk rs ts ∧ (∀ c ∈ cs, c.Ok s) ∧ cs.length ≤ 200 ∧
  ∀ R, R = hrun s rs ts cs (h0, []) → ∀ p, Ω p = none → P (.tup [.dat R.1.enc, .ptr p]) (put Ω p (encB R.2))
theorem ok_hrun (T : Top K mg) : FnOk P w K mg base CX0 6 T.f_run_house T.d_run_house ["setup", "rule", "row", "standing"] (spA K spHRun) := by
  have G_house_beat : FnOk P w K mg base CX0 5 T.f_house_beat T.d_house_beat ["setup", "rule", "standing", "comers"] (spA K spHB) := ok_hb T
  refine fnA_okN T.D_run_house sc_run_house (fun as Ω P ⟨s, rs, ts, cs, e, _⟩ => by subst e; rfl) (fun A outer s H E hr => ?_)
  refine ⟨_, (pss_cons (ps_set (i := 4) sc_run_house.nd rfl (.inl rfl) (pe_lst pa_nil))
    (pss_cons (ps_for PassesOwn.never rfl (Dat.piL (K := K) rfl (pv 2)) (pg_name (i := 5) sc_run_house.nd rfl (.inl rfl))
      (pss_cons (ps_asg (pe_call G_house_beat (hr.mono (by omega)) rfl T.D_house_beat.g T.D_house_beat.F.kp T.D_house_beat.b .nil pass0 (pa_cons (pv 0) (pa_cons (pv 1) (pa_cons (pv 3) (pa_cons (pv 5) pa_nil))))) (Dat.pgT (K := K) (n := 3) rfl rfl (pgs_cons (pg_name (i := 3) sc_run_house.nd rfl (.inl rfl)) (pgs_cons (pg_name (i := 6) sc_run_house.nd rfl (.inl rfl)) (pgs_cons (pg_name (i := 7) sc_run_house.nd rfl (.inl rfl)) pgs_nil)))))
      (pss_one (ps_expr (Dat.appQ (K := K) rfl (pv 4) (pa_cons (pv 6) pa_nil))))))
    (pss_one (ps_ret (pe_tup (pa_cons (pv 3) (pa_cons (pv 4) pa_nil))))))), ?_⟩
  rintro as Ω P ⟨s, rs, ts, cs, rfl, so, po, co, hl, h⟩
  replace h := h _ rfl
  obtain ⟨R, hR⟩ : ∃ R, R = hrun s rs ts cs (h0, []) := ⟨_, rfl⟩
  rw [← hR] at h
  refine s_seq (s_asg (e_lstP (a_nil ⟨by simp, fun p np => ?_⟩)))
  refine s_seqM (fun Γ' Ω' => ∃ x y z, Γ' = [some (.dat s.enc), some (.dat (plan rs ts)), some (.dat (.list (cs.map Com.enc))), some (.dat R.1.enc), some (.ptr p), x, y, z] ∧ Ω' = put Ω p (encB R.2)) ?_ ?_
  · refine s_for (fun as i Γ' Ω' => as = (cs.map Com.enc).map .dat ∧ ∃ (t : Hs) (ws : List Bil) (x y z : Option Av), R = hrun s rs ts (cs.drop i) (t, ws) ∧ HsOk s t ∧ ws.length = i ∧ Γ' = [some (.dat s.enc), some (.dat (plan rs ts)), some (.dat (.list (cs.map Com.enc))), some (.dat t.enc), some (.ptr p), x, y, z] ∧ Ω' = put Ω p (encB ws)) ?_
    refine i_list (e_var rfl ⟨_, rfl, ⟨rfl, h0, [], _, _, _, hR, h0_ok so, rfl, rfl, rfl⟩, ?_, ?_⟩)
    · rintro i it Γ' Ω' hit ⟨_, t, ws, x, y, z, hr, to, lw, rfl, rfl⟩
      obtain ⟨c, ec, rfl⟩ := com_at hit
      have hi := (List.getElem?_eq_some_iff.mp ec).1
      have oc := co c (List.mem_of_getElem? ec)
      refine g_name (s_seq (s_asgG (e_call (a_cons (e_var rfl (a_cons (e_var rfl (a_cons (e_var rfl (a_cons (e_var rfl (a_nil ⟨s, rs, ts, t, c, rfl, so, po, to, oc, fun F X eF eX u => ?_⟩))))))))))))
      have eN : nextOf s F X = hN s rs ts t c := by rw [eX, eF]; rfl
      have eB : bilOf s t c F X = hB s rs ts t c := by rw [eX, eF]; rfl
      rw [eN, eB]
      refine g_tup rfl (gs_cons (g_name ⟨rfl, gs_cons (g_name ⟨rfl, gs_cons (g_name ⟨rfl, gs_nil ?_⟩)⟩)⟩))
      refine s_drop (e_app (e_var rfl ⟨p, rfl, ⟨_, put_same⟩, a_cons (e_var rfl (a_nil ⟨_, _, rfl, put_same, by rw [List.length_map, List.length_map]; omega, ?_⟩))⟩))
      refine ⟨rfl, hN s rs ts t c, ws ++ [hB s rs ts t c], _, _, _, hr.trans (hrun_snoc ec), hN_ok so po to oc, by rw [List.length_append, lw]; rfl, rfl, ?_⟩
      rw [put_put, show encB (ws ++ [hB s rs ts t c]) = encB ws ++ [.dat (hB s rs ts t c).enc] by rw [encB, List.map_append, List.map_append]; rfl]
    · rintro Γ' Ω' ⟨_, t, ws, x, y, z, hr, to, lw, rfl, rfl⟩
      rw [List.length_map, List.length_map, List.drop_length] at hr
      rw [hr]
      exact ⟨x, y, z, rfl, rfl⟩
  rintro Γ' Ω' ⟨x, y, z, rfl, rfl⟩
  exact s_ret (e_tupA (a_cons (e_var rfl (a_cons (e_var rfl (a_nil ⟨by simp, h p np⟩))))))
abbrev spHRow : ASp := fun as Ω P => ∃ (s : Shop) (rs ts : List Rw) (cs : List Com), as = [.dat s.enc, .dat (plan rs ts), .dat (.list (cs.map Com.enc))] ∧ s.Ok ∧ PlOk rs ts ∧ (∀ c ∈ cs, c.Ok s) ∧ cs.length ≤ 200 ∧ P (.dat .none) Ω
theorem ok_hrow (T : Top K mg) {Pw : Addr} (TB : TabB base mg T.cw Pw) (hT : Tb.T (K := K) = [(Pw, lamQ)]) : FnOk P w K mg base CX0 9 T.f_check_house_row T.d_check_house_row ["setup", "rule", "row"] (spA K spHRow) := by
  have G_check_row : FnOk P w K mg base CX0 6 T.f_check_row T.d_check_row ["setup", "thing", "most"] (spA K spChkRow) := ok_check_row T TB hT
  have G_check_setup : FnOk P w K mg base CX0 5 T.f_check_setup T.d_check_setup ["thing"] (spA K spChk) := ok_check_setup T
  have G_check_rule : FnOk P w K mg base CX0 8 T.f_check_rule T.d_check_rule ["thing"] (spA K spChkR) := ok_check_rule T
  obtain ⟨dsv, hvd, hbd⟩ := T.D_check_row.b
  refine fnA_ok T.D_check_house_row.F sc_check_house_row (fun as Ω P ⟨s, rs, ts, cs, e, _⟩ => by subst e; rfl) (fun cdv A outer s H E hr => ?_)
  refine ⟨_, (pss_cons (ps_expr (pe_call G_check_setup (hr.mono (by omega)) rfl T.D_check_setup.g T.D_check_setup.F.kp T.D_check_setup.b .nil pass0 (pa_cons (pv 0) pa_nil)))
    (pss_cons (ps_expr (pe_call G_check_rule (hr.mono (by omega)) rfl T.D_check_rule.g T.D_check_rule.F.kp T.D_check_rule.b .nil pass0 (pa_cons (pv 1) pa_nil)))
    (pss_one (ps_expr (pe_call (dvs := [.int 200]) G_check_row (hr.mono (by omega)) rfl T.D_check_row.g T.D_check_row.kp hbd hvd pass0 (pa_cons (pv 0) (pa_cons (pv 2) pa_nil))))))), ?_⟩
  rintro as Ω P ⟨s, rs, ts, cs, rfl, so, po, co, hl, h⟩
  refine s_seq (s_drop (e_call (a_cons (e_var rfl (a_nil ⟨_, rfl, so.d, ?_⟩)))))
  refine s_seq (s_drop (e_call (a_cons (e_var rfl (a_nil ⟨_, rfl, po.ruleD, ?_⟩)))))
  exact s_drop (e_callD (das := [.dat (.int 200)]) (fun F => .cons (.dat (.int 200)) .nil) (a_cons (e_var rfl (a_cons (e_var rfl (a_nil ⟨s, cs, rfl, so, co, hl, h⟩))))))
abbrev spBills : ASp := fun as Ω P => ∃ (s : Shop) (rs ts : List Rw) (cs : List Com), as = [.dat s.enc, .dat (plan rs ts), .dat (.list (cs.map Com.enc))] ∧ s.Ok ∧ PlOk rs ts ∧ (∀ c ∈ cs, c.Ok s) ∧ cs.length ≤ 200 ∧
  ∀ R, R = hrun s rs ts cs (h0, []) → ∀ p, Ω p = none → P (.ptr p) (put Ω p (encB R.2))
theorem ok_bills (T : Top K mg) {Pw : Addr} (TB : TabB base mg T.cw Pw) (hT : Tb.T (K := K) = [(Pw, lamQ)]) : FnOk P w K mg base CX0 10 T.f_bills_of T.d_bills_of ["setup", "rule", "row"] (spA K spBills) := by
  have G_run_house : FnOk P w K mg base CX0 6 T.f_run_house T.d_run_house ["setup", "rule", "row", "standing"] (spA K spHRun) := ok_hrun T
  have G_check_house_row : FnOk P w K mg base CX0 9 T.f_check_house_row T.d_check_house_row ["setup", "rule", "row"] (spA K spHRow) := ok_hrow T TB hT
  obtain ⟨dsr, hvr, hbr⟩ := T.D_run_house.b
  refine fnA_ok T.D_bills_of.F sc_bills_of (fun as Ω P ⟨s, rs, ts, cs, e, _⟩ => by subst e; rfl) (fun cdv A outer s H E hr => ?_)
  refine ⟨_, (pss_cons (ps_expr (pe_call G_check_house_row (hr.mono (by omega)) rfl T.D_check_house_row.g T.D_check_house_row.F.kp T.D_check_house_row.b .nil pass0 (pa_cons (pv 0) (pa_cons (pv 1) (pa_cons (pv 2) pa_nil)))))
    (pss_cons (ps_asg (pe_call (dvs := [.ref T.p_EMPTY_HOUSE]) G_run_house (hr.mono (by omega)) rfl T.D_run_house.g T.D_run_house.kp hbr hvr pass0 (pa_cons (pv 0) (pa_cons (pv 1) (pa_cons (pv 2) pa_nil)))) (Dat.pgT (K := K) (n := 2) rfl rfl (pgs_cons (pg_name (i := 3) sc_bills_of.nd rfl (.inl rfl)) (pgs_cons (pg_name (i := 4) sc_bills_of.nd rfl (.inl rfl)) pgs_nil))))
    (pss_one (ps_ret (pv 4))))), ?_⟩
  rintro as Ω P ⟨s, rs, ts, cs, rfl, so, po, co, hl, h⟩
  refine s_seq (s_drop (e_call (a_cons (e_var rfl (a_cons (e_var rfl (a_cons (e_var rfl (a_nil ⟨s, rs, ts, cs, rfl, so, po, co, hl, ?_⟩)))))))))
  refine s_seq (s_asgG (e_callD (das := [.dat h0.enc]) (fun F => .cons (.dat (T.v_EMPTY_HOUSE F)) .nil) (a_cons (e_var rfl (a_cons (e_var rfl (a_cons (e_var rfl (a_nil ⟨s, rs, ts, cs, rfl, so, po, co, hl, fun R eR p np => ?_⟩)))))))))
  refine g_tupA rfl (gs_cons (g_name ⟨rfl, gs_cons (g_name ⟨rfl, gs_nil ?_⟩)⟩))
  exact s_ret (e_var rfl (h R eR p np))
end
end K38

set_option Elab.async false
set_option linter.all false
set_option maxRecDepth 100000
set_option maxHeartbeats 1000000
namespace K38
open PySem PySem.Spec PyProof.Rows L2 Dat LamX Clo
local macro_rules | `(tactic| trivial) => `(tactic| (first
  | (with_reducible refine s_seq ?_)
  | (with_reducible refine s_asg ?_)
  | (with_reducible refine s_ret ?_)
  | (with_reducible refine s_drop ?_)
  | (with_reducible refine s_next ?_)
  | (with_reducible refine s_retN ?_)
  | (with_reducible refine s_brk ?_)
  | (with_reducible refine s_cont ?_)
  | (with_reducible refine s_if ?_)
  | (with_reducible refine e_int ?_)
  | (with_reducible refine e_str ?_)
  | (with_reducible refine e_bl ?_)
  | (with_reducible refine e_non ?_)
  | (with_reducible refine e_ty ?_)
  | (with_reducible refine e_tupD ?_)
  | (with_reducible refine e_lstD ?_)
  | (with_reducible refine e_op ?_)
  | (with_reducible refine e_un ?_)
  | (with_reducible refine e_then ?_)
  | (with_reducible refine e_cb ?_)
  | (with_reducible refine e_call ?_)
  | (with_reducible refine e_if ?_)
  | (with_reducible refine e_chain ?_)
  | (with_reducible refine e_andV ?_)
  | (with_reducible refine e_orV ?_)
  | (with_reducible refine e_notV ?_)
  | (with_reducible refine a_cons ?_)
  | (with_reducible refine a_nil ?_)
  | (with_reducible refine t_test ?_)
  | (with_reducible refine t_B ?_)
  | (with_reducible refine t_not ?_)
  | (with_reducible refine t_and ?_)
  | (with_reducible refine t_or ?_)
  | (with_reducible refine r_I0i ?_)
  | (with_reducible refine r_I0b ?_)
  | (with_reducible refine r_neg ?_)
  | (with_reducible refine r_isN ?_)
  | (with_reducible refine r_notN ?_)
  | (with_reducible refine c_lenT ?_)
  | (with_reducible refine c_lenL ?_)
  | (with_reducible refine c_intI ?_)
  | (with_reducible refine c_intB ?_)
  | (with_reducible refine c_max2 ?_)
  | (with_reducible refine c_min2 ?_)
  | (with_reducible refine c_abs ?_)
  | (with_reducible refine r_tupL ?_)
  | (with_reducible refine r_tupT ?_)
  | (with_reducible refine c_allM ?_)
  | ((with_reducible apply e_var); (exact rfl))
  | ((with_reducible refine r_eq ?_ ?_); (exact rfl))
  | ((with_reducible refine r_ne ?_ ?_); (exact rfl))
  | (with_reducible refine c_isi kit_int ?_)
  | (with_reducible refine c_isi kit_bool ?_)
  | (with_reducible refine c_isi kit_tuple ?_)
  | (with_reducible refine c_isi kit_list ?_)
  | (with_reducible refine c_isi kit_str ?_)
  | ((with_reducible apply r_ixT); (exact rfl))
  | ((with_reducible apply dats_pack); (iterate 40 (first | exact Dats.nil | apply Dats.cons | skip)); (exact rfl))
  | (with_reducible refine s_asgG ?_) | (with_reducible refine g_name ?_) | ((with_reducible refine g_tup ?_ ?_); (exact rfl)) | (refine gs_nil ?_) | (refine gs_cons ?_) | (with_reducible refine ⟨rfl, ?_⟩)
  | (refine ⟨_, rfl, ?_⟩) | (refine ⟨_, _, rfl, ?_⟩) | (refine ⟨_, _, _, rfl, ?_⟩) | (with_reducible refine ⟨fun _ => ?_, fun _ => ?_⟩) | fail))
/-! ### bills judged -/
def deedD (s : Shop) : PyData → Bool
  | .tuple [.str w, .int n] => (decide (w = "group") && ((s.sizes.map PyData.int).any fun e => PyData.eqv e (.int n))) || (decide (w = "single") && decide (n = 1))
  | _ => false
/-- a pair's first part is a text -/
def dW (d : PyData) : Prop := ∀ w x, d = .tuple [w, x] → ∃ t, w = .str t
def unDs : List PyData → List (Str × Int)
  | .tuple [.str w, .int n] :: r => (w, n) :: unDs r
  | _ => []
theorem all_deed {s : Shop} : ∀ {ds : List PyData}, ds.all (deedD s) = true → ds = encD (unDs ds)
  | [], _ => rfl
  | d :: r, h => by
    rw [List.all_cons, Bool.and_eq_true] at h
    have g := all_deed h.2
    unfold deedD at h
    split at h
    · show _ :: r = _ :: encD (unDs r)
      rw [← g]
    · cases h.1
theorem deedD_no {s : Shop} {d : PyData} (h : pairD d = false) : deedD s d = false := by
  unfold deedD
  split
  · cases h
  · rfl
theorem sizes_cases {s : Shop} (so : s.Ok) : (∃ a, s.sizes = [a]) ∨ ∃ a b, s.sizes = [a, b] := by
  have h1 := so.z1
  have h2 := so.z2
  match s.sizes, h1, h2 with
  | [a], _, _ => exact .inl ⟨a, rfl⟩
  | [a, b], _, _ => exact .inr ⟨a, b, rfl⟩
  | _ :: _ :: _ :: _, _, h => exact absurd h (by simp)
def lastI : List Int → Int
  | [a] => a
  | [_, b] => b
  | _ => 0
def kindD (s : Shop) : PyData → Bool
  | .int k => (s.kinds.map PyData.int).any fun e => PyData.eqv e (.int k)
  | _ => false
def opLen : PyData → Bool
  | .tuple ks => decide (ks.length ≤ 2)
  | _ => false
def opAll (s : Shop) : PyData → Bool
  | .tuple ks => ks.all (kindD s)
  | _ => false
def emD (s : Shop) (sat : Int) : PyData → Bool
  | .int e => [PyData.int 0, .int (s.n - sat)].any fun x => PyData.eqv x (.int e)
  | _ => false
def restD (s : Shop) (sat : Int) (e a op sv un me : PyData) : Bool :=
  !(decide (sat > s.n) || !(isWh e && emD s sat e)) && (!(!(inD 0 sat sv && (isWh un && decide (intOf sv + intOf un = sat)))) &&
    (inD 0 (s.c1 * lastI s.sizes + s.c2) a && (isTupD op && (opLen op && (opAll s op && inD 0 (if intOf un > 0 then 0 else 2 * lastI s.kinds) me)))))
def billD (s : Shop) : PyData → Bool
  | .tuple [.tuple ds, e, a, op, sv, un, me] => ds.all (deedD s) && restD s (dsum (unDs ds)) e a op sv un me
  | _ => false
theorem wh_or {d : PyData} (h : isWh d = true) : ∃ i, d = .int i := by
  cases d <;> first | exact ⟨_, rfl⟩ | cases h
section
variable {P : Program} {w : World} {K : PySem.W.Frag} [Tb K] {mg : Str → Option Value} {base : Heap}
abbrev spDeed : ASp := fun as Ω P => ∃ (s : Shop) (d : PyData), as = [.dat s.enc, .dat d] ∧ dW d ∧ P (.dat (.bool (deedD s d))) Ω
theorem ok_deed (T : Top K mg) : FnOk P w K mg base CX0 3 T.f_is_deed T.d_is_deed ["setup", "thing"] (spA K spDeed) := by
  have G_is_whole : FnOk P w K mg base CX0 1 T.f_is_whole T.d_is_whole ["thing"] (spA K (spB isWh)) := ok_is_whole T
  have G_is_pair : FnOk P w K mg base CX0 1 T.f_is_pair T.d_is_pair ["thing"] (spA K (spB pairD)) := ok_is_pair T
  refine fnA_ok T.D_is_deed.F sc_is_deed (fun as Ω P ⟨s, d, e, _⟩ => by subst e; rfl) (fun cdv A outer s H E hr => ?_)
  refine ⟨_, (pss_cons (ps_if (pt_not (PW.pt (pw_and (pt_val (pe_call G_is_pair (hr.mono (by omega)) rfl T.D_is_pair.g T.D_is_pair.F.kp T.D_is_pair.b .nil pass0 (pa_cons (pv 1) pa_nil))) (pw_and1 (pt_val (pe_call G_is_whole (hr.mono (by omega)) rfl T.D_is_whole.g T.D_is_whole.F.kp T.D_is_whole.b .nil pass0 (pa_cons (pe_ix (Dat.ixT (K := K) rfl) (pv 1) pe_int (fun _ _ => rfl)) pa_nil)))))))
      (pss_one (ps_ret pe_bl))
      pss_nil)
    (pss_one (ps_ret (pe_or (pe_and (pe_cmpR op_eq (pe_ix (Dat.ixT (K := K) rfl) (pv 1) pe_int (fun _ _ => rfl)) pe_str (nomark _)) (pe_one (pe_cmpR (Dat.inQ (K := K) rfl) (pe_ix (Dat.ixT (K := K) rfl) (pv 1) pe_int (fun _ _ => rfl)) (pe_ix (Dat.ixT (K := K) rfl) (pv 0) pe_int (fun _ _ => rfl)) rfl))) (pe_one (pe_and (pe_cmpR op_eq (pe_ix (Dat.ixT (K := K) rfl) (pv 1) pe_int (fun _ _ => rfl)) pe_str (nomark _)) (pe_one (pe_cmpR op_eq (pe_ix (Dat.ixT (K := K) rfl) (pv 1) pe_int (fun _ _ => rfl)) pe_int (nomark _))))))))), ?_⟩
  rintro as Ω P ⟨s, d, rfl, hw, h⟩
  rcases pair_or' d with ⟨a, b, rfl⟩ | hn
  · obtain ⟨t, rfl⟩ := hw _ _ rfl
    refine s_seq (s_ifB (b := !(true && isWh b)) (t_notB (t_andB (t_ofB ?_) fun _ => t_ofB ?_)) (fun z => ?_) fun z => s_next ?_)
    · repeat' trivial
    · repeat' trivial
    · have : deedD s (.tuple [.str t, b]) = false := by
        cases b <;> first | rfl | cases z
      rw [this] at h
      exact s_ret (e_bl h)
    · rw [Bool.true_and, Bool.not_eq_false'] at z
      obtain ⟨n, rfl⟩ := wh_or z
      refine s_retB (b := deedD s (.tuple [.str t, .int n])) ?_ h
      refine e_orB (e_andB ?_ fun _ => ?_) fun _ => e_andB ?_ fun _ => ?_
      · repeat' trivial
      · exact e_op (e_op (e_var rfl (e_int (r_ixT rfl (e_op (e_var rfl (e_int (r_ixT rfl (r_inT rfl flat_itup ⟨rfl, rfl⟩)))))))))
      · repeat' trivial
      · repeat' trivial
  · have e : deedD s d = false := deedD_no hn
    rw [e] at h
    refine s_seq (s_ifB (b := !(false && false)) (t_notB (t_andB (t_ofB ?_) fun z => by cases z)) (fun z => s_ret (e_bl h)) fun z => by cases z)
    exact e_call (a_cons (e_var rfl (a_nil ⟨d, rfl, by rw [hn]; exact ⟨rfl, rfl⟩⟩)))
theorem billD_no {s : Shop} {ds : List PyData} (h : ds.length ≠ 7) : billD s (.tuple ds) = false := by
  unfold billD
  split
  · next e => rw [PyData.tuple.inj e] at h; exact absurd rfl h
  · rfl
def bW (d : PyData) : Prop := ∀ ds r, d = .tuple (.tuple ds :: r) → (∀ x ∈ ds, dW x) ∧ ds.length ≤ 100
abbrev spBill : ASp := fun as Ω P => ∃ (s : Shop) (d : PyData), as = [.dat s.enc, .dat d] ∧ s.Ok ∧ bW d ∧ P (.dat (.bool (billD s d))) Ω
theorem ok_bill (T : Top K mg) : FnOk P w K mg base CX0 4 T.f_is_bill T.d_is_bill ["setup", "thing"] (spA K spBill) := by
  have G_is_whole : FnOk P w K mg base CX0 1 T.f_is_whole T.d_is_whole ["thing"] (spA K (spB isWh)) := ok_is_whole T
  have G_is_whole_in : FnOk P w K mg base CX0 2 T.f_is_whole_in T.d_is_whole_in ["thing", "low", "high"] (spA K spIn) := ok_is_whole_in T
  have G_is_deed : FnOk P w K mg base CX0 3 T.f_is_deed T.d_is_deed ["setup", "thing"] (spA K spDeed) := ok_deed T
  have G_seated : FnOk P w K mg base CX0 1 T.f_seated T.d_seated ["deeds"] (spA K spSeated) := ok_seated T
  refine fnA_ok T.D_is_bill.F sc_is_bill (fun as Ω P ⟨s, d, e, _⟩ => by subst e; rfl) (fun cdv A outer s H E hr => ?_)
  refine ⟨_, (pss_cons (ps_if (pt_not (PW.pt (pw_and (pt_val (pe_callB (Dat.isiQ (K := K) rfl) rfl T.b_isinstance bt_isinstance (pa_cons (pv 1) (pa_cons (pe_bltn (v := .ty "tuple") rfl T.b_tuple bt_tuple rfl) pa_nil)))) (pw_and1 (pt_cmpR op_eq (pe_callB (Dat.lenQ (K := K) rfl) rfl T.b_len bt_len (pa_cons (pv 1) pa_nil)) pe_int (nomark _))))))
      (pss_one (ps_ret pe_bl))
      pss_nil)
    (pss_cons (ps_asg (pv 1) (Dat.pgT (K := K) (n := 7) rfl rfl (pgs_cons (pg_name (i := 2) sc_is_bill.nd rfl (.inl rfl)) (pgs_cons (pg_name (i := 3) sc_is_bill.nd rfl (.inl rfl)) (pgs_cons (pg_name (i := 4) sc_is_bill.nd rfl (.inl rfl)) (pgs_cons (pg_name (i := 5) sc_is_bill.nd rfl (.inl rfl)) (pgs_cons (pg_name (i := 6) sc_is_bill.nd rfl (.inl rfl)) (pgs_cons (pg_name (i := 7) sc_is_bill.nd rfl (.inl rfl)) (pgs_cons (pg_name (i := 8) sc_is_bill.nd rfl (.inl rfl)) pgs_nil)))))))))
    (pss_cons (ps_if (pt_not (PW.pt (pw_and (pt_val (pe_callB (Dat.isiQ (K := K) rfl) rfl T.b_isinstance bt_isinstance (pa_cons (pv 2) (pa_cons (pe_bltn (v := .ty "tuple") rfl T.b_tuple bt_tuple rfl) pa_nil)))) (pw_and1 (pt_val (pe_callB (Dat.allQ (K := K) rfl rfl) rfl T.b_all bt_all (pa_cons (pe_lc (own := [("deed", 9)]) (g := (gName 9)) (tt := tYes) rfl sc_is_bill.nd (Dat.piT (K := K) rfl (pv 2)) (blkOk_by (N := N_is_bill) (sc := defScope s_is_bill) (by decide +kernel)) (fun _ _ _ _ _ => (pg_name (i := 9) sc_is_bill.nd rfl (Or.inl rfl))) (fun _ _ _ _ _ => pts_nil) (fun _ _ _ _ _ => (pe_call G_is_deed (hr.mono (by omega)) rfl T.D_is_deed.g T.D_is_deed.F.kp T.D_is_deed.b .nil pass0 (pa_cons (pv 0) (pa_cons (pv 9) pa_nil))))) pa_nil)))))))
      (pss_one (ps_ret pe_bl))
      pss_nil)
    (pss_cons (ps_set (i := 10) sc_is_bill.nd rfl (.inl rfl) (pe_call G_seated (hr.mono (by omega)) rfl T.D_seated.g T.D_seated.F.kp T.D_seated.b .nil pass0 (pa_cons (pv 2) pa_nil)))
    (pss_cons (ps_if (PW.pt (pw_or (pt_cmpR op_gt (pv 10) (pe_ix (Dat.ixT (K := K) rfl) (pv 0) pe_int (fun _ _ => rfl)) (nomark _)) (pw_or1 (pt_not (PW.pt (pw_and (pt_val (pe_call G_is_whole (hr.mono (by omega)) rfl T.D_is_whole.g T.D_is_whole.F.kp T.D_is_whole.b .nil pass0 (pa_cons (pv 3) pa_nil))) (pw_and1 (pt_cmpR (Dat.inQ (K := K) rfl) (pv 3) (pe_tup (pa_cons pe_int (pa_cons (pe_op op_sub (pe_ix (Dat.ixT (K := K) rfl) (pv 0) pe_int (fun _ _ => rfl)) (pv 10)) pa_nil))) rfl))))))))
      (pss_one (ps_ret pe_bl))
      pss_nil)
    (pss_cons (ps_if (pt_not (PW.pt (pw_and (pt_val (pe_call G_is_whole_in (hr.mono (by omega)) rfl T.D_is_whole_in.g T.D_is_whole_in.F.kp T.D_is_whole_in.b .nil pass0 (pa_cons (pv 6) (pa_cons pe_int (pa_cons (pv 10) pa_nil))))) (pw_and (pt_val (pe_call G_is_whole (hr.mono (by omega)) rfl T.D_is_whole.g T.D_is_whole.F.kp T.D_is_whole.b .nil pass0 (pa_cons (pv 7) pa_nil))) (pw_and1 (pt_cmpR op_eq (pe_op op_add (pv 6) (pv 7)) (pv 10) (nomark _)))))))
      (pss_one (ps_ret pe_bl))
      pss_nil)
    (pss_cons (ps_set (i := 11) sc_is_bill.nd rfl (.inr rfl) (pe_ix (Dat.ixT (K := K) rfl) (pv 0) pe_int (fun _ _ => rfl)))
    (pss_one (ps_ret (pe_and (pe_call G_is_whole_in (hr.mono (by omega)) rfl T.D_is_whole_in.g T.D_is_whole_in.F.kp T.D_is_whole_in.b .nil pass0 (pa_cons (pv 4) (pa_cons pe_int (pa_cons (pe_op op_add (pe_op op_mul (pe_ix (Dat.ixT (K := K) rfl) (pe_ix (Dat.ixT (K := K) rfl) (pv 0) pe_int (fun _ _ => rfl)) pe_int (fun _ _ => rfl)) (pe_ix (Dat.ixT (K := K) rfl) (pe_ix (Dat.ixT (K := K) rfl) (pv 0) pe_int (fun _ _ => rfl)) (pe_un un_neg pe_int) (fun _ _ => rfl))) (pe_ix (Dat.ixT (K := K) rfl) (pe_ix (Dat.ixT (K := K) rfl) (pv 0) pe_int (fun _ _ => rfl)) pe_int (fun _ _ => rfl))) pa_nil)))) (pe_and (pe_callB (Dat.isiQ (K := K) rfl) rfl T.b_isinstance bt_isinstance (pa_cons (pv 5) (pa_cons (pe_bltn (v := .ty "tuple") rfl T.b_tuple bt_tuple rfl) pa_nil))) (pe_and (pe_cmpR op_le (pe_callB (Dat.lenQ (K := K) rfl) rfl T.b_len bt_len (pa_cons (pv 5) pa_nil)) pe_int (nomark _)) (pe_and (pe_callB (Dat.allQ (K := K) rfl rfl) rfl T.b_all bt_all (pa_cons (pe_lc (own := [("portions", 12)]) (g := (gName 12)) (tt := tYes) rfl sc_is_bill.nd (Dat.piT (K := K) rfl (pv 5)) (blkOk_by (N := N_is_bill) (sc := defScope s_is_bill) (by decide +kernel)) (fun _ _ _ _ _ => (pg_name (i := 12) sc_is_bill.nd rfl (Or.inl rfl))) (fun _ _ _ _ _ => pts_nil) (fun _ _ _ _ _ => (pe_and (pe_call G_is_whole (hr.mono (by omega)) rfl T.D_is_whole.g T.D_is_whole.F.kp T.D_is_whole.b .nil pass0 (pa_cons (pv 12) pa_nil)) (pe_one (pe_cmpR (Dat.inQ (K := K) rfl) (pv 12) (pv 11) rfl))))) pa_nil)) (pe_one (pe_call G_is_whole_in (hr.mono (by omega)) rfl T.D_is_whole_in.g T.D_is_whole_in.F.kp T.D_is_whole_in.b .nil pass0 (pa_cons (pv 8) (pa_cons pe_int (pa_cons (pe_ifExp (pt_cmpR op_gt (pv 7) pe_int (nomark _)) pe_int (pe_op op_mul pe_int (pe_ix (Dat.ixT (K := K) rfl) (pv 11) (pe_un un_neg pe_int) (fun _ _ => rfl)))) pa_nil)))))))))))))))))), ?_⟩
  rintro as Ω P ⟨s, d, rfl, so, hw, h⟩
  rcases tup_or d with ⟨ds, rfl⟩ | hn
  · by_cases hl : ds.length = 7
    · match ds, hl with
      | [d1, d2, d3, d4, d5, d6, d7], _ =>
        refine s_seq (s_ifB (b := false) ?_ (fun z => by cases z) fun _ => s_next (s_seq ?_))
        · repeat' trivial
          all_goals first | (refine ⟨?_, rfl⟩; rfl) | (simp_all [isTupD]; done)
        refine s_asgG (e_var rfl (g_tup rfl ?_))
        repeat (refine gs_cons (g_name ⟨rfl, ?_⟩))
        refine gs_nil ?_
        rcases tup_or d1 with ⟨ds, rfl⟩ | hn
        · obtain ⟨hx, hl⟩ := hw ds _ rfl
          refine s_seq (s_ifB (b := !(true && ds.all (deedD s))) (t_notB (t_andB (t_ofB ?_) fun _ => t_ofB ?_)) (fun z => ?_) fun z => s_next ?_)
          · repeat' trivial
          · refine e_cb (a_cons (e_lcM ds .dat (fun d => .bool (deedD s d)) (gn_name (by decide)) (by omega) ?_))
            refine i_tup (e_var rfl ⟨_, rfl, rfl, fun x Ω' hm _ => g_name ⟨rfl, ?_⟩, ?_⟩)
            · exact e_call (a_cons (e_var rfl (a_cons (e_var rfl (a_nil ⟨s, x, rfl, hx x hm, rfl, rfl⟩)))))
            · exact a_nil (c_allM ⟨rfl, rfl⟩)
          · have : billD s (.tuple [.tuple ds, d2, d3, d4, d5, d6, d7]) = false := by
              rw [Bool.true_and, Bool.not_eq_true'] at z
              simp only [billD]
              rw [z, Bool.false_and]
            rw [this] at h
            exact s_ret (e_bl h)
          · rw [Bool.true_and, Bool.not_eq_false'] at z
            have eb : billD s (.tuple [.tuple ds, d2, d3, d4, d5, d6, d7]) = restD s (dsum (unDs ds)) d2 d3 d4 d5 d6 d7 := by
              simp only [billD]
              rw [z, Bool.true_and]
            rw [eb] at h
            have ed := all_deed z
            generalize hu : unDs ds = us at ed h
            subst ed
            have lu : us.length ≤ 100 := by rw [encD, List.length_map] at hl; exact hl
            refine s_seq (s_asg (e_call (a_cons (e_var rfl (a_nil ⟨us, rfl, lu, ?_⟩)))))
            generalize dsum us = sat at h
            refine s_seq (s_ifB (b := decide (sat > s.n) || !(isWh d2 && emD s sat d2)) (t_orB (t_ofC ?_) fun _ => t_notB (t_andB (t_ofB ?_) fun hw => t_ofC ?_)) (fun z => ?_) fun z => s_next ?_)
            · repeat' trivial
            · repeat' trivial
            · obtain ⟨i, rfl⟩ := wh_or hw
              exact e_op (e_var rfl (e_tupD (a_cons (e_int (a_cons (e_op (e_op (e_var rfl (e_int (r_ixT rfl (e_var rfl (r_I0i (a_nil ⟨_, .cons (.cons .nil), rfl, r_inT rfl rfl ⟨rfl, rfl⟩⟩)))))))))))))
            · rw [restD, z, Bool.not_true, Bool.false_and] at h
              exact s_ret (e_bl h)
            rw [restD, z, Bool.not_false, Bool.true_and] at h
            refine s_seq (s_ifB (b := !(inD 0 sat d5 && (isWh d6 && decide (intOf d5 + intOf d6 = sat)))) (t_notB (t_andB (t_ofB ?_) fun h5 => t_andB (t_ofB ?_) fun h6 => t_ofC ?_)) (fun z => ?_) fun z => s_next ?_)
            · repeat' trivial
            · repeat' trivial
            · obtain ⟨i5, rfl, _⟩ := inD_or h5
              obtain ⟨i6, rfl⟩ := wh_or h6
              repeat' trivial
            · rw [z, Bool.not_true, Bool.false_and] at h
              exact s_ret (e_bl h)
            rw [z, Bool.not_false, Bool.true_and] at h
            rw [Bool.not_eq_false', Bool.and_eq_true, Bool.and_eq_true] at z
            obtain ⟨i6, rfl⟩ := wh_or z.2.1
            refine s_seq (s_asg (e_op (e_var rfl (e_int (r_ixT rfl ?_)))))
            refine s_retB (b := inD 0 (s.c1 * lastI s.sizes + s.c2) d3 && (isTupD d4 && (opLen d4 && (opAll s d4 && inD 0 (if i6 > 0 then 0 else 2 * lastI s.kinds) d7)))) (e_andB ?_ fun _ => e_andB ?_ fun h4 => ?_) h
            · obtain ⟨n, zs, r1, r2, c1, c2, ks, lf, pr⟩ := s
              have k0 : 0 ≤ c1 := so.c10
              have k1 : c1 ≤ 1 := so.c11
              have hc : ∀ {x : Int}, CMul c1 x := .inl ⟨by omega, by omega⟩
              rcases sizes_cases so with ⟨a, e⟩ | ⟨a, b, e⟩
              · obtain rfl : zs = [a] := e
                exact e_call (a_cons (e_var rfl (a_cons (e_int (a_cons (e_op (e_op (e_op (e_op (e_var rfl (e_int (r_ixT rfl (e_int (r_ixT rfl (e_op (e_op (e_var rfl (e_int (r_ixT rfl (e_un (e_int (r_neg (r_ixT rfl (r_Ii hc (e_op (e_op (e_var rfl (e_int (r_ixT rfl (e_int (r_ixT rfl (r_I0i (a_nil ⟨_, _, _, rfl, rfl, rfl⟩)))))))))))))))))))))))))))))))))
              · obtain rfl : zs = [a, b] := e
                exact e_call (a_cons (e_var rfl (a_cons (e_int (a_cons (e_op (e_op (e_op (e_op (e_var rfl (e_int (r_ixT rfl (e_int (r_ixT rfl (e_op (e_op (e_var rfl (e_int (r_ixT rfl (e_un (e_int (r_neg (r_ixT rfl (r_Ii hc (e_op (e_op (e_var rfl (e_int (r_ixT rfl (e_int (r_ixT rfl (r_I0i (a_nil ⟨_, _, _, rfl, rfl, rfl⟩)))))))))))))))))))))))))))))))))
            · repeat' trivial
            · rcases tup_or d4 with ⟨ks, rfl⟩ | hn
              · refine e_andB ?_ fun hl => e_andB ?_ fun _ => ?_
                · repeat' trivial
                  exact ⟨congrArg (fun b => Av.dat (.bool b)) (decide_eq_decide.mpr (by omega)), rfl⟩
                · have hl := of_decide_eq_true hl
                  refine e_cb (a_cons (e_lcM ks .dat (fun d => .bool (kindD s d)) (gn_name (by decide)) (by omega) ?_))
                  refine i_tup (e_var rfl ⟨_, rfl, rfl, fun x Ω' hm _ => g_name ⟨rfl, ?_⟩, ?_⟩)
                  · refine EW.mono (P := IsB (isWh x && kindD s x) Ω') (e_andB ?_ fun hw => ?_) fun a Ω2 ⟨e1, e2⟩ => ⟨e2, by rw [e1]; congr 3; cases x <;> rfl⟩
                    · repeat' trivial
                    · obtain ⟨i, rfl⟩ := wh_or hw
                      exact e_op (e_var rfl (e_var rfl (r_inT rfl flat_itup ⟨rfl, rfl⟩)))
                  · exact a_nil (c_allM ⟨rfl, rfl⟩)
                · refine e_call (a_cons (e_var rfl (a_cons (e_int (a_cons (e_if (t_test (e_op (e_var rfl (e_int (r_I0b ⟨_, rfl, fun z => e_int ?_, fun z => ?_⟩)))))))))))
                  · rw [if_pos (of_decide_eq_true z)]
                    exact a_nil ⟨_, _, _, rfl, rfl, rfl⟩
                  · rw [if_neg (of_decide_eq_false z)]
                    obtain ⟨n, zs, r1, r2, c1, c2, ks', lf, pr⟩ := s
                    rcases kinds_cases so with ⟨a, e⟩ | ⟨a, b, e⟩
                    · obtain rfl : ks' = [a] := e
                      exact e_op (e_int (e_op (e_var rfl (e_un (e_int (r_neg (r_ixT rfl (r_Ii (by exact .inl ⟨by decide, by decide⟩) (a_nil ⟨_, _, _, rfl, rfl, rfl⟩)))))))))
                    · obtain rfl : ks' = [a, b] := e
                      exact e_op (e_int (e_op (e_var rfl (e_un (e_int (r_neg (r_ixT rfl (r_Ii (by exact .inl ⟨by decide, by decide⟩) (a_nil ⟨_, _, _, rfl, rfl, rfl⟩)))))))))
              · rw [hn] at h4
                cases h4
        · have e : billD s (.tuple [d1, d2, d3, d4, d5, d6, d7]) = false := by cases d1 <;> first | rfl | cases hn
          rw [e] at h
          refine s_seq (s_ifB (b := !(false && false)) (t_notB (t_andB (t_ofB ?_) fun z => by cases z)) (fun z => s_ret (e_bl h)) fun z => by cases z)
          repeat' trivial
          rw [hn]
          exact ⟨rfl, rfl⟩
    · rw [billD_no hl] at h
      repeat' trivial
      all_goals (simp_all [eqD]; try omega)
  · have e : billD s d = false := by cases d <;> first | rfl | cases hn
    rw [e] at h
    repeat' trivial
    all_goals (cases d <;> simp_all [isTupD])
end
end K38

set_option Elab.async false
set_option linter.all false
set_option maxRecDepth 100000
set_option maxHeartbeats 1000000
namespace K38
open PySem PySem.Spec PyProof.Rows L2 Dat LamX Clo
local macro_rules | `(tactic| trivial) => `(tactic| (first
  | (with_reducible refine s_seq ?_)
  | (with_reducible refine s_asg ?_)
  | (with_reducible refine s_ret ?_)
  | (with_reducible refine s_drop ?_)
  | (with_reducible refine s_next ?_)
  | (with_reducible refine s_retN ?_)
  | (with_reducible refine s_brk ?_)
  | (with_reducible refine s_cont ?_)
  | (with_reducible refine s_if ?_)
  | (with_reducible refine e_int ?_)
  | (with_reducible refine e_str ?_)
  | (with_reducible refine e_bl ?_)
  | (with_reducible refine e_non ?_)
  | (with_reducible refine e_ty ?_)
  | (with_reducible refine e_tupD ?_)
  | (with_reducible refine e_lstD ?_)
  | (with_reducible refine e_op ?_)
  | (with_reducible refine e_un ?_)
  | (with_reducible refine e_then ?_)
  | (with_reducible refine e_cb ?_)
  | (with_reducible refine e_call ?_)
  | (with_reducible refine e_if ?_)
  | (with_reducible refine e_chain ?_)
  | (with_reducible refine e_andV ?_)
  | (with_reducible refine e_orV ?_)
  | (with_reducible refine e_notV ?_)
  | (with_reducible refine a_cons ?_)
  | (with_reducible refine a_nil ?_)
  | (with_reducible refine t_test ?_)
  | (with_reducible refine t_B ?_)
  | (with_reducible refine t_not ?_)
  | (with_reducible refine t_and ?_)
  | (with_reducible refine t_or ?_)
  | (with_reducible refine r_I0i ?_)
  | (with_reducible refine r_I0b ?_)
  | (with_reducible refine r_neg ?_)
  | (with_reducible refine r_isN ?_)
  | (with_reducible refine r_notN ?_)
  | (with_reducible refine c_lenT ?_)
  | (with_reducible refine c_lenL ?_)
  | (with_reducible refine c_intI ?_)
  | (with_reducible refine c_intB ?_)
  | (with_reducible refine c_max2 ?_)
  | (with_reducible refine c_min2 ?_)
  | (with_reducible refine c_abs ?_)
  | (with_reducible refine r_tupL ?_)
  | (with_reducible refine r_tupT ?_)
  | (with_reducible refine c_allM ?_)
  | ((with_reducible apply e_var); (exact rfl))
  | ((with_reducible refine r_eq ?_ ?_); (exact rfl))
  | ((with_reducible refine r_ne ?_ ?_); (exact rfl))
  | (with_reducible refine c_isi kit_int ?_)
  | (with_reducible refine c_isi kit_bool ?_)
  | (with_reducible refine c_isi kit_tuple ?_)
  | (with_reducible refine c_isi kit_list ?_)
  | (with_reducible refine c_isi kit_str ?_)
  | ((with_reducible apply r_ixT); (exact rfl))
  | ((with_reducible apply dats_pack); (iterate 40 (first | exact Dats.nil | apply Dats.cons | skip)); (exact rfl))
  | (with_reducible refine s_asgG ?_) | (with_reducible refine g_name ?_) | ((with_reducible refine g_tup ?_ ?_); (exact rfl)) | (refine gs_nil ?_) | (refine gs_cons ?_) | (with_reducible refine ⟨rfl, ?_⟩)
  | (refine ⟨_, rfl, ?_⟩) | (refine ⟨_, _, rfl, ?_⟩) | (refine ⟨_, _, _, rfl, ?_⟩) | (with_reducible refine ⟨fun _ => ?_, fun _ => ?_⟩) | fail))
/-! ### what is counted of a bill; count_of, which may raise -/
theorem hu1 {A : Around} {k : Nat} (hr : Room k A) : A.units + 1 < cLine := by
  have := hu64 hr
  omega
/-- any datum not in a tuple of texts -/
def rNotInStr (K : PySem.W.Frag) : R2 := fun x y H Q => ∃ (p : Addr) (ws : List Str) (d : PyData), y = .ref p ∧ SqT K H p (ws.map V.str) ∧ Dq K H x d ∧ Q (.bl (!ws.any fun w => isStr w d)) H
theorem op_notInStr {X : Cx} (hu : X.A.units + 64 < cLine) : OpR X (compareOp .NotIn) (rNotInStr X.K) := by
  intro pins s σ H x y v u Q I rx ry h
  obtain ⟨p, ws, d, rfl, hq, hd, q⟩ := h
  cases ry
  obtain ⟨its, r, tp, hz⟩ := I.tuple hq
  refine SeqAt.notIn_tupleAt (isStrU d) (show s.heap.IsTuple p its.toArray from tp) (fun z hz' => mem_str I (by show X.A.units + 1 < cLine; omega) hd rx r z (by simpa using hz')) ⟨.bl _, H, I, rfl, ?_⟩
  rw [show its.toArray.any (isStrU d) = its.any (isStrU d) by simp, any_str r]
  exact q
theorem notInStrQ {X : Cx} {K : PySem.W.Frag} (hK : X.K = K) (hu : X.A.units + 64 < cLine) : OpR X (compareOp .NotIn) (rNotInStr K) := by subst hK; exact op_notInStr hu
theorem r_notInStr {K : PySem.W.Frag} [Tb K] {Ω : AH} {P : Av → AH → Prop} {d : PyData} {ws : List Str} (h : P (.dat (.bool (!ws.any fun w => isStr w d))) Ω) : R2W K (rNotInStr K) (.dat d) (.dat (.tuple (ws.map PyData.str))) Ω P := fun F H x y Q k hx hy q =>
  r_inStr (P := fun c Ω' => c = .dat (.bool (ws.any fun w => isStr w d)) ∧ Ω' = Ω) ⟨rfl, rfl⟩ F H x y (fun v H' => ∃ b, v = .bl b ∧ Q (.bl (!b)) H') k hx hy (fun c v Ω' H' ⟨ec, eo⟩ k' hv => by
    subst ec eo
    cases hv with | dat hv =>
      cases hv
      exact ⟨_, rfl, q _ _ _ _ h k' (.dat (.bl _))⟩) |> fun ⟨p, ws, d, e, hq, hd, b, eb, hQ⟩ => ⟨p, ws, d, e, hq, hd, by cases eb; exact hQ⟩
abbrev wordL : List Str := ["empty", "away", "unserved", "melted", "served", "seated", "cost"]
def whatD (d : PyData) : Bool := wordL.any fun w => isStr w d
def pr (s : Shop) (k : Nat) : Int := match s.prices with
  | .tuple ds => intOf (ds.getD k .none)
  | _ => 0
theorem prices_of {s : Shop} (so : s.Ok) : ∃ a b c d : Int, s.prices = .tuple [.int a, .int b, .int c, .int d] ∧ (0 ≤ a ∧ a ≤ 5) ∧ (0 ≤ b ∧ b ≤ 5) ∧ (0 ≤ c ∧ c ≤ 5) ∧ 0 ≤ d ∧ d ≤ 5 := by
  have h := so.d
  have h : pricesD s.prices = true := by
    simp only [setupD, Bool.and_eq_true] at h
    exact h.2.2.2.2.2.2.2.2.2.2
  unfold pricesD at h
  split at h
  · next ds e =>
    simp only [Bool.and_eq_true, decide_eq_true_eq] at h
    match ds, h with
    | [w, x, y, z], h =>
      simp only [List.all_cons, List.all_nil, Bool.and_eq_true] at h
      obtain ⟨a, rfl, a0, a1⟩ := inD_or h.2.1
      obtain ⟨b, rfl, b0, b1⟩ := inD_or h.2.2.1
      obtain ⟨c, rfl, c0, c1⟩ := inD_or h.2.2.2.1
      obtain ⟨d, rfl, d0, d1⟩ := inD_or h.2.2.2.2.1
      exact ⟨a, b, c, d, e, ⟨a0, a1⟩, ⟨b0, b1⟩, ⟨c0, c1⟩, d0, d1⟩
  · cases h
def cnt (s : Shop) (w : Str) (b : Bil) : Int :=
  if w = "cost" then pr s 0 * b.e + (pr s 1 * b.me + pr s 2 * b.un) + pr s 3 * b.a else
  if w = "seated" then dsum b.ds else if w = "empty" then b.e else if w = "away" then b.a else if w = "unserved" then b.un else if w = "melted" then b.me else b.sv
section
variable {P : Program} {w : World} {K : PySem.W.Frag} [Tb K] {mg : Str → Option Value} {base : Heap}
abbrev spTCost : ASp := fun as Ω P => ∃ (s : Shop) (u m : Int), as = [.dat s.enc, .dat (.int u), .dat (.int m)] ∧ s.Ok ∧ P (.dat (.int (pr s 1 * m + pr s 2 * u))) Ω
theorem cmul5 {a x : Int} (h : 0 ≤ a ∧ a ≤ 5) : CMul a x := .inl ⟨by omega, by omega⟩
theorem ok_tcost (T : Top K mg) : FnOk P w K mg base CX0 1 T.f_tubs_cost T.d_tubs_cost ["setup", "unserved", "melted"] (spA K spTCost) := by
  refine fnA_ok T.D_tubs_cost.F sc_tubs_cost (fun as Ω P ⟨s, u, m, e, _⟩ => by subst e; rfl) (fun cdv A outer s H E hr => ?_)
  refine ⟨_, (pss_one (ps_ret (pe_op op_add (pe_op op_mul (pe_ix (Dat.ixT (K := K) rfl) (pe_ix (Dat.ixT (K := K) rfl) (pv 0) pe_int (fun _ _ => rfl)) pe_int (fun _ _ => rfl)) (pv 2)) (pe_op op_mul (pe_ix (Dat.ixT (K := K) rfl) (pe_ix (Dat.ixT (K := K) rfl) (pv 0) pe_int (fun _ _ => rfl)) pe_int (fun _ _ => rfl)) (pv 1))))), ?_⟩
  rintro as Ω P ⟨s, u, m, rfl, so, h⟩
  obtain ⟨p0, p1, p2, p3, ep, h0, h1, h2, h3⟩ := prices_of so
  obtain ⟨n, zs, r1, r2, c1, c2, ks, lf, prs⟩ := s
  obtain rfl : prs = .tuple [.int p0, .int p1, .int p2, .int p3] := ep
  exact s_ret (e_op (e_op (e_op (e_op (e_var rfl (e_int (r_ixT rfl (e_int (r_ixT rfl (e_var rfl (r_Ii (cmul5 h1) (e_op (e_op (e_op (e_var rfl (e_int (r_ixT rfl (e_int (r_ixT rfl (e_var rfl (r_Ii (cmul5 h2) (r_I0i h))))))))))))))))))))))
abbrev spBCnt : ASp := fun as Ω P => ∃ (s : Shop) (w : Str) (b : Bil), as = [.dat s.enc, .dat (.str w), .dat b.enc] ∧ s.Ok ∧ w ∈ wordL ∧ b.ds.length ≤ 100 ∧ P (.dat (.int (cnt s w b))) Ω
theorem ok_bcnt (T : Top K mg) : FnOk P w K mg base CX0 2 T.f_bill_count T.d_bill_count ["setup", "what", "bill"] (spA K spBCnt) := by
  have G_tubs_cost : FnOk P w K mg base CX0 1 T.f_tubs_cost T.d_tubs_cost ["setup", "unserved", "melted"] (spA K spTCost) := ok_tcost T
  have G_seated : FnOk P w K mg base CX0 1 T.f_seated T.d_seated ["deeds"] (spA K spSeated) := ok_seated T
  refine fnA_ok T.D_bill_count.F sc_bill_count (fun as Ω P ⟨s, w, b, e, _⟩ => by subst e; rfl) (fun cdv A outer s H E hr => ?_)
  refine ⟨_, (pss_cons (ps_asg (pv 2) (Dat.pgT (K := K) (n := 7) rfl rfl (pgs_cons (pg_name (i := 3) sc_bill_count.nd rfl (.inl rfl)) (pgs_cons (pg_name (i := 4) sc_bill_count.nd rfl (.inl rfl)) (pgs_cons (pg_name (i := 5) sc_bill_count.nd rfl (.inl rfl)) (pgs_cons (pg_name (i := 6) sc_bill_count.nd rfl (.inl rfl)) (pgs_cons (pg_name (i := 7) sc_bill_count.nd rfl (.inl rfl)) (pgs_cons (pg_name (i := 8) sc_bill_count.nd rfl (.inl rfl)) (pgs_cons (pg_name (i := 9) sc_bill_count.nd rfl (.inl rfl)) pgs_nil)))))))))
    (pss_cons (ps_if (pt_cmpR op_eq (pv 1) pe_str (nomark _))
      (pss_one (ps_ret (pe_op op_add (pe_op op_add (pe_op op_mul (pe_ix (Dat.ixT (K := K) rfl) (pe_ix (Dat.ixT (K := K) rfl) (pv 0) pe_int (fun _ _ => rfl)) pe_int (fun _ _ => rfl)) (pv 4)) (pe_call G_tubs_cost (hr.mono (by omega)) rfl T.D_tubs_cost.g T.D_tubs_cost.F.kp T.D_tubs_cost.b .nil pass0 (pa_cons (pv 0) (pa_cons (pv 8) (pa_cons (pv 9) pa_nil))))) (pe_op op_mul (pe_ix (Dat.ixT (K := K) rfl) (pe_ix (Dat.ixT (K := K) rfl) (pv 0) pe_int (fun _ _ => rfl)) pe_int (fun _ _ => rfl)) (pv 5)))))
      pss_nil)
    (pss_cons (ps_if (pt_cmpR op_eq (pv 1) pe_str (nomark _))
      (pss_one (ps_ret (pe_call G_seated (hr.mono (by omega)) rfl T.D_seated.g T.D_seated.F.kp T.D_seated.b .nil pass0 (pa_cons (pv 3) pa_nil))))
      pss_nil)
    (pss_cons (ps_set (i := 10) sc_bill_count.nd rfl (.inl rfl) (pe_disp (pps_cons pe_str (pv 4) (pps_cons pe_str (pv 5) (pps_cons pe_str (pv 8) (pps_cons pe_str (pv 9) (pps_cons pe_str (pv 7) pps_nil))))) rfl rfl (fun h => nomatch h) (by decide)))
    (pss_one (ps_ret (pe_dget (hu1 hr) (pv 10) (pv 1) (fun _ _ => rfl)))))))), ?_⟩
  rintro as Ω P ⟨s, w, b, rfl, so, hw, hl, h⟩
  refine s_seq (s_asgG (e_var rfl (g_tup rfl ?_)))
  repeat (refine gs_cons (g_name ⟨rfl, ?_⟩))
  refine gs_nil ?_
  refine s_seq (s_if (t_test (e_op (e_var rfl (e_str (r_eq rfl ⟨_, rfl, fun z => ?_, fun z => s_next ?_⟩))))))
  · have z := of_decide_eq_true z
    subst z
    obtain ⟨p0, p1, p2, p3, ep, h0, h1, h2, h3⟩ := prices_of so
    obtain ⟨n, zs, r1, r2, c1, c2, ks, lf, prs⟩ := s
    obtain rfl : prs = .tuple [.int p0, .int p1, .int p2, .int p3] := ep
    refine s_ret (e_op (e_op (e_op (e_op (e_op (e_var rfl (e_int (r_ixT rfl (e_int (r_ixT rfl (e_var rfl (r_Ii (cmul5 h0) (e_call (a_cons (e_var rfl (a_cons (e_var rfl (a_cons (e_var rfl (a_nil ⟨_, _, _, rfl, so, ?_⟩))))))))))))))))))))
    exact r_I0i (e_op (e_op (e_op (e_var rfl (e_int (r_ixT rfl (e_int (r_ixT rfl (e_var rfl (r_Ii (cmul5 h3) (r_I0i h)))))))))))
  have z := of_decide_eq_false z
  refine s_seq (s_if (t_test (e_op (e_var rfl (e_str (r_eq rfl ⟨_, rfl, fun z2 => ?_, fun z2 => s_next ?_⟩))))))
  · have z2 := of_decide_eq_true z2
    subst z2
    exact s_ret (e_call (a_cons (e_var rfl (a_nil ⟨_, rfl, hl, h⟩))))
  have z2 := of_decide_eq_false z2
  refine s_seq (s_asg (e_disp (.cons (p_var rfl) (.cons (p_var rfl) (.cons (p_var rfl) (.cons (p_var rfl) (.cons (p_var rfl) .nil))))) (by show 5 ≤ 15; decide) fun p => ?_))
  refine s_ret (e_dget (e_var rfl ⟨p, _, rfl, e_var rfl ⟨w, cnt s w b, rfl, ?_, h⟩⟩))
  simp only [List.mem_cons, List.not_mem_nil, or_false] at hw
  rcases hw with rfl | rfl | rfl | rfl | rfl | rfl | rfl <;> first | rfl | exact absurd rfl z | exact absurd rfl z2
abbrev spWhat (T : Top K mg) : ASpX := fun as Ω P PX => ∃ d, as = [.dat d] ∧ (whatD d = true → P (.dat .none) Ω) ∧ (whatD d = false → PX (.ref T.x_BadWhat) Ω)
theorem ok_what (T : Top K mg) : FnOk P w K mg base (L2.CX P w) 1 T.f_check_what T.d_check_what ["thing"] (spX K (spWhat T)) := by
  refine fnX_ok T.D_check_what.F sc_check_what (fun as Ω P PX ⟨d, e, _⟩ => by subst e; rfl) (fun cdv A outer s H E hr tk => ?_)
  refine ⟨_, (pss_one (ps_if (pt_cmpR (notInStrQ (K := K) rfl (hu64 hr)) (pv 0) (pe_glob (v := .ref T.p_HOUSE_WORDS) rfl T.c_HOUSE_WORDS rfl) rfl)
      (pss_one (ps_raiseD T.X_BadWhat rfl rfl rfl tk rfl))
      pss_nil)), ?_⟩
  rintro as Ω P PX ⟨d, rfl, h1, h2⟩
  refine sx_if (t_test (e_op (e_var rfl (e_K T.v_HOUSE_WORDS (r_notInStr (ws := wordL) ⟨_, rfl, fun z => sx_raise (h2 ?_), fun z => SWX.of (s_next (h1 ?_))⟩)))))
  · rw [Bool.not_eq_true'] at z
    exact z
  · rw [Bool.not_eq_false'] at z
    exact z
theorem sx_ifB {Γ : List (Option Av)} {Ω : AH} {W : WX} {xc : XA} {tt : TT} {b : Bool} {E : EndA} {t u : TS} (h : TW K tt Γ Ω (IsT b Ω)) (h1 : b = true → SWX K W t Γ Ω E xc) (h2 : b = false → SWX K W u Γ Ω E xc) : SWX K W (tIfS tt t u) Γ Ω E xc :=
  sx_if (h.mono fun a Ω' ⟨e, eo⟩ => by subst e eo; exact ⟨h1, h2⟩)
theorem what_or {d : PyData} (h : whatD d = true) : ∃ w, d = .str w ∧ w ∈ wordL := by
  obtain ⟨w, hw, e⟩ := List.any_eq_true.mp h
  unfold isStr at e
  cases d <;> first | (cases e; done) | skip
  rename_i x
  have e : w = x := by simpa using e
  exact ⟨w, by rw [e], hw⟩
abbrev spCount (T : Top K mg) : ASpX := fun as Ω P PX => ∃ (s : Shop) (wd d : PyData), as = [.dat s.enc, .dat wd, .dat d] ∧ s.Ok ∧ (whatD wd = false → PX (.ref T.x_BadWhat) Ω) ∧
  (whatD wd = true → bW d ∧ (billD s d = false → PX (.ref T.x_BadBill) Ω) ∧ (billD s d = true → ∃ (b : Bil) (w : Str), d = b.enc ∧ b.ds.length ≤ 100 ∧ wd = .str w ∧ P (.dat (.int (cnt s w b))) Ω))
theorem ok_count (T : Top K mg) : FnOk P w K mg base (L2.CX P w) 6 T.f_count_of T.d_count_of ["setup", "what", "bill"] (spX K (spCount T)) := by
  have G_check_setup : FnOk P w K mg base CX0 5 T.f_check_setup T.d_check_setup ["thing"] (spA K spChk) := ok_check_setup T
  have G_check_what : FnOk P w K mg base (L2.CX P w) 1 T.f_check_what T.d_check_what ["thing"] (spX K (spWhat T)) := ok_what T
  have G_is_bill : FnOk P w K mg base CX0 4 T.f_is_bill T.d_is_bill ["setup", "thing"] (spA K spBill) := ok_bill T
  have G_bill_count : FnOk P w K mg base CX0 2 T.f_bill_count T.d_bill_count ["setup", "what", "bill"] (spA K spBCnt) := ok_bcnt T
  refine fnX_ok T.D_count_of.F sc_count_of (fun as Ω P PX ⟨s, wd, d, e, _⟩ => by subst e; rfl) (fun cdv A outer s H E hr tk => ?_)
  refine ⟨_, (pss_cons (ps_expr (pe_call G_check_setup (hr.mono (by omega)) rfl T.D_check_setup.g T.D_check_setup.F.kp T.D_check_setup.b .nil pass0 (pa_cons (pv 0) pa_nil)))
    (pss_cons (ps_expr (pe_callS G_check_what (hr.mono (by omega)) rfl T.D_check_what.g T.D_check_what.F.kp T.D_check_what.b (passAt tk) (pa_cons (pv 1) pa_nil)))
    (pss_cons (ps_if (pt_not (pt_val (pe_call G_is_bill (hr.mono (by omega)) rfl T.D_is_bill.g T.D_is_bill.F.kp T.D_is_bill.b .nil pass0 (pa_cons (pv 0) (pa_cons (pv 2) pa_nil)))))
      (pss_one (ps_raiseD T.X_BadBill rfl rfl rfl tk rfl))
      pss_nil)
    (pss_one (ps_ret (pe_call G_bill_count (hr.mono (by omega)) rfl T.D_bill_count.g T.D_bill_count.F.kp T.D_bill_count.b .nil pass0 (pa_cons (pv 0) (pa_cons (pv 1) (pa_cons (pv 2) pa_nil))))))))), ?_⟩
  rintro as Ω P PX ⟨s, wd, d, rfl, so, h1, h2⟩
  refine sx_seq (SWX.of (s_drop (e_call (a_cons (e_var rfl (a_nil ⟨_, rfl, so.d, ?_⟩))))))
  refine sx_seq (sx_call (a_cons (e_var rfl (a_nil ⟨wd, rfl, fun hw => ?_, fun hw => h1 hw⟩))))
  obtain ⟨hb, h3, h4⟩ := h2 hw
  refine sx_seq (sx_ifB (b := !billD s d) (t_notB (t_ofC ?_)) (fun z => sx_raise (h3 ?_)) fun z => SWX.of (s_next (SWX.of ?_)))
  · exact e_call (a_cons (e_var rfl (a_cons (e_var rfl (a_nil ⟨s, d, rfl, so, hb, rfl, rfl⟩)))))
  · rw [Bool.not_eq_true'] at z
    exact z
  · rw [Bool.not_eq_false'] at z
    obtain ⟨b, w, rfl, hl, rfl, h⟩ := h4 z
    obtain ⟨w', e, hm⟩ := what_or hw
    cases e
    exact s_ret (e_call (a_cons (e_var rfl (a_cons (e_var rfl (a_cons (e_var rfl (a_nil ⟨s, w, b, rfl, so, hm, hl, h⟩))))))))
end
end K38

set_option Elab.async false
set_option linter.all false
set_option maxRecDepth 100000
set_option maxHeartbeats 1000000
namespace K38
open PySem PySem.Spec PyProof.Rows L2 Dat LamX Clo
local macro_rules | `(tactic| trivial) => `(tactic| (first
  | (with_reducible refine s_seq ?_)
  | (with_reducible refine s_asg ?_)
  | (with_reducible refine s_ret ?_)
  | (with_reducible refine s_drop ?_)
  | (with_reducible refine s_next ?_)
  | (with_reducible refine s_retN ?_)
  | (with_reducible refine s_brk ?_)
  | (with_reducible refine s_cont ?_)
  | (with_reducible refine s_if ?_)
  | (with_reducible refine e_int ?_)
  | (with_reducible refine e_str ?_)
  | (with_reducible refine e_bl ?_)
  | (with_reducible refine e_non ?_)
  | (with_reducible refine e_ty ?_)
  | (with_reducible refine e_tupD ?_)
  | (with_reducible refine e_lstD ?_)
  | (with_reducible refine e_op ?_)
  | (with_reducible refine e_un ?_)
  | (with_reducible refine e_then ?_)
  | (with_reducible refine e_cb ?_)
  | (with_reducible refine e_call ?_)
  | (with_reducible refine e_if ?_)
  | (with_reducible refine e_chain ?_)
  | (with_reducible refine e_andV ?_)
  | (with_reducible refine e_orV ?_)
  | (with_reducible refine e_notV ?_)
  | (with_reducible refine a_cons ?_)
  | (with_reducible refine a_nil ?_)
  | (with_reducible refine t_test ?_)
  | (with_reducible refine t_B ?_)
  | (with_reducible refine t_not ?_)
  | (with_reducible refine t_and ?_)
  | (with_reducible refine t_or ?_)
  | (with_reducible refine r_I0i ?_)
  | (with_reducible refine r_I0b ?_)
  | (with_reducible refine r_neg ?_)
  | (with_reducible refine r_isN ?_)
  | (with_reducible refine r_notN ?_)
  | (with_reducible refine c_lenT ?_)
  | (with_reducible refine c_lenL ?_)
  | (with_reducible refine c_intI ?_)
  | (with_reducible refine c_intB ?_)
  | (with_reducible refine c_max2 ?_)
  | (with_reducible refine c_min2 ?_)
  | (with_reducible refine c_abs ?_)
  | (with_reducible refine r_tupL ?_)
  | (with_reducible refine r_tupT ?_)
  | (with_reducible refine c_allM ?_)
  | ((with_reducible apply e_var); (exact rfl))
  | ((with_reducible refine r_eq ?_ ?_); (exact rfl))
  | ((with_reducible refine r_ne ?_ ?_); (exact rfl))
  | (with_reducible refine c_isi kit_int ?_)
  | (with_reducible refine c_isi kit_bool ?_)
  | (with_reducible refine c_isi kit_tuple ?_)
  | (with_reducible refine c_isi kit_list ?_)
  | (with_reducible refine c_isi kit_str ?_)
  | ((with_reducible apply r_ixT); (exact rfl))
  | ((with_reducible apply dats_pack); (iterate 40 (first | exact Dats.nil | apply Dats.cons | skip)); (exact rfl))
  | (with_reducible refine s_asgG ?_) | (with_reducible refine g_name ?_) | ((with_reducible refine g_tup ?_ ?_); (exact rfl)) | (refine gs_nil ?_) | (refine gs_cons ?_) | (with_reducible refine ⟨rfl, ?_⟩)
  | (refine ⟨_, rfl, ?_⟩) | (refine ⟨_, _, rfl, ?_⟩) | (refine ⟨_, _, _, rfl, ?_⟩) | (with_reducible refine ⟨fun _ => ?_, fun _ => ?_⟩) | fail))
/-! ### totals; the law's own count; what is refused -/
theorem bt_ValueError : bootBuiltins "ValueError" = some (.type "ValueError") := by decide +kernel
theorem hrun_bil {s : Shop} {rs ts : List Rw} (so : s.Ok) (po : PlOk rs ts) : ∀ {cs : List Com} {x : Hs × List Bil}, (∀ c ∈ cs, c.Ok s) → HsOk s x.1 → (∀ b ∈ x.2, BilOk b) → (∀ b ∈ (hrun s rs ts cs x).2, BilOk b) ∧ (hrun s rs ts cs x).2.length = x.2.length + cs.length
  | [], x, _, _, hb => ⟨hb, rfl⟩
  | c :: cs, x, hc, hx, hb => by
    have co := hc c List.mem_cons_self
    have g := hrun_bil so po (cs := cs) (x := (hN s rs ts x.1 c, x.2 ++ [hB s rs ts x.1 c])) (fun z hz => hc z (List.mem_cons_of_mem _ hz)) (hN_ok so po hx co) fun b m => by
      rcases List.mem_append.mp m with m | m
      · exact hb b m
      · rw [List.mem_singleton.mp m]
        exact hB_ok so po hx co
    refine ⟨g.1, g.2.trans ?_⟩
    show (x.2 ++ [_]).length + cs.length = x.2.length + (cs.length + 1)
    rw [List.length_append]
    show x.2.length + 1 + cs.length = _
    omega
abbrev csB : Scope := { kind := .function, names := [(".0", .local), ("what", .cell), ("sum", .globalImplicit), ("bills", .cell), ("setup", .cell)], isGenerator := false, isCoroutine := false }
def tot (s : Shop) (bs : List Bil) (w : Str) : Int := (bs.map (cnt s w)).sum
def totD (s : Shop) (bs : List Bil) : PyData := .tuple (wordL.map fun w => .int (tot s bs w))
theorem ints_cnt (s : Shop) (w : Str) (bs : List Bil) : (bs.map fun b => PyData.int (cnt s w b)) = (bs.map (cnt s w)).map PyData.int := by rw [List.map_map]; rfl
section
variable {P : Program} {w : World} {K : PySem.W.Frag} [Tb K] {mg : Str → Option Value} {base : Heap}
abbrev spBTot : ASp := fun as Ω P => ∃ (s : Shop) (bs : List Bil), as = [.dat s.enc, .dat (.list (bs.map Bil.enc))] ∧ s.Ok ∧ (∀ b ∈ bs, BilOk b) ∧ bs.length ≤ 200 ∧ P (.dat (totD s bs)) Ω
theorem ok_btot (T : Top K mg) : FnOk P w K mg base CX0 3 T.f_bill_totals T.d_bill_totals ["setup", "bills"] (spA K spBTot) := by
  have G_bill_count : FnOk P w K mg base CX0 2 T.f_bill_count T.d_bill_count ["setup", "what", "bill"] (spA K spBCnt) := ok_bcnt T
  refine fnA_ok T.D_bill_totals.F sc_bill_totals (fun as Ω P ⟨s, bs, e, _⟩ => by subst e; rfl) (fun cdv A outer s H E hr => ?_)
  refine ⟨_, (pss_one (ps_ret (Dat.pe_tupleK (K := K) rfl rfl T.b_tuple (pe_lc (own := [("what", 2)]) (g := (gName 2)) (tt := tYes) rfl sc_bill_totals.nd (Dat.piT (K := K) rfl (pe_glob (v := .ref T.p_HOUSE_WORDS) rfl T.c_HOUSE_WORDS rfl)) (blkOk_by (N := N_bill_totals) (sc := defScope s_bill_totals) (by decide +kernel)) (fun _ _ _ _ _ => (pg_name (i := 2) sc_bill_totals.nd rfl (Or.inr rfl))) (fun _ _ _ _ _ => pts_nil) (fun _ _ _ _ _ => (pe_callB (Dat.sumQ (K := K) rfl rfl) rfl T.b_sum bt_sum (pa_cons (pe_lc (own := [("bill", 3)]) (g := (gName 3)) (tt := tYes) rfl sc_bill_totals.nd (Dat.piL (K := K) rfl (pv 1)) (blkOk_by (N := N_bill_totals) (sc := csB) (by decide +kernel)) (fun _ _ _ _ _ => (pg_name (i := 3) sc_bill_totals.nd rfl (Or.inl rfl))) (fun _ _ _ _ _ => pts_nil) (fun _ _ _ _ _ => (pe_call G_bill_count (hr.mono (by omega)) rfl T.D_bill_count.g T.D_bill_count.F.kp T.D_bill_count.b .nil pass0 (pa_cons (pv 0) (pa_cons (pv 2) (pa_cons (pv 3) pa_nil)))))) pa_nil))))))), ?_⟩
  rintro as Ω P ⟨s, bs, rfl, so, hb, lb, h⟩
  refine s_ret (e_then (e_lcM wordL (fun w => .dat (.str w)) (fun w => .int (tot s bs w)) (gn_name (by decide)) (by decide) ?_))
  refine i_tup (e_K T.v_HOUSE_WORDS ⟨_, rfl, rfl, fun w Ω' hw _ => g_name ⟨rfl, ?_⟩, ?_⟩)
  · refine e_cb (a_cons (e_lcM bs (fun b => .dat b.enc) (fun b => .int (cnt s w b)) (gn_name (by decide)) (by omega) ?_))
    refine i_list (e_var rfl ⟨_, rfl, (by rw [List.map_map]; rfl), fun b Ω'' hb' _ => g_name ⟨rfl, ?_⟩, ?_⟩)
    · have := (hb b hb').l
      exact e_call (a_cons (e_var rfl (a_cons (e_var rfl (a_cons (e_var rfl (a_nil ⟨s, w, b, rfl, so, hw, by omega, rfl, rfl⟩)))))))
    · rw [ints_cnt]
      exact a_nil (c_sum ⟨rfl, rfl⟩)
  · exact r_tupL h
abbrev spTot : ASp := fun as Ω P => ∃ (s : Shop) (rs ts : List Rw) (cs : List Com), as = [.dat s.enc, .dat (plan rs ts), .dat (.list (cs.map Com.enc))] ∧ s.Ok ∧ PlOk rs ts ∧ (∀ c ∈ cs, c.Ok s) ∧ cs.length ≤ 200 ∧
  ∀ R, R = hrun s rs ts cs (h0, []) → P (.dat (totD s R.2)) Ω
theorem ok_tot (T : Top K mg) {Pw : Addr} (TB : TabB base mg T.cw Pw) (hT : Tb.T (K := K) = [(Pw, lamQ)]) : FnOk P w K mg base CX0 10 T.f_totals_of T.d_totals_of ["setup", "rule", "row"] (spA K spTot) := by
  have G_run_house : FnOk P w K mg base CX0 6 T.f_run_house T.d_run_house ["setup", "rule", "row", "standing"] (spA K spHRun) := ok_hrun T
  have G_check_house_row : FnOk P w K mg base CX0 9 T.f_check_house_row T.d_check_house_row ["setup", "rule", "row"] (spA K spHRow) := ok_hrow T TB hT
  have G_bill_totals : FnOk P w K mg base CX0 3 T.f_bill_totals T.d_bill_totals ["setup", "bills"] (spA K spBTot) := ok_btot T
  obtain ⟨dsr, hvr, hbr⟩ := T.D_run_house.b
  refine fnA_ok T.D_totals_of.F sc_totals_of (fun as Ω P ⟨s, rs, ts, cs, e, _⟩ => by subst e; rfl) (fun cdv A outer s H E hr => ?_)
  refine ⟨_, (pss_cons (ps_expr (pe_call G_check_house_row (hr.mono (by omega)) rfl T.D_check_house_row.g T.D_check_house_row.F.kp T.D_check_house_row.b .nil pass0 (pa_cons (pv 0) (pa_cons (pv 1) (pa_cons (pv 2) pa_nil)))))
    (pss_cons (ps_asg (pe_call (dvs := [.ref T.p_EMPTY_HOUSE]) G_run_house (hr.mono (by omega)) rfl T.D_run_house.g T.D_run_house.kp hbr hvr pass0 (pa_cons (pv 0) (pa_cons (pv 1) (pa_cons (pv 2) pa_nil)))) (Dat.pgT (K := K) (n := 2) rfl rfl (pgs_cons (pg_name (i := 3) sc_totals_of.nd rfl (.inl rfl)) (pgs_cons (pg_name (i := 4) sc_totals_of.nd rfl (.inl rfl)) pgs_nil))))
    (pss_one (ps_ret (pe_call G_bill_totals (hr.mono (by omega)) rfl T.D_bill_totals.g T.D_bill_totals.F.kp T.D_bill_totals.b .nil pass0 (pa_cons (pv 0) (pa_cons (pv 4) pa_nil))))))), ?_⟩
  rintro as Ω P ⟨s, rs, ts, cs, rfl, so, po, co, hl, h⟩
  refine s_seq (s_drop (e_call (a_cons (e_var rfl (a_cons (e_var rfl (a_cons (e_var rfl (a_nil ⟨s, rs, ts, cs, rfl, so, po, co, hl, ?_⟩)))))))))
  refine s_seq (s_asgG (e_callD (das := [.dat h0.enc]) (fun F => .cons (.dat (T.v_EMPTY_HOUSE F)) .nil) (a_cons (e_var rfl (a_cons (e_var rfl (a_cons (e_var rfl (a_nil ⟨s, rs, ts, cs, rfl, so, po, co, hl, fun R eR p np => ?_⟩)))))))))
  have hb := hrun_bil so po (x := (h0, [])) co (h0_ok so) (fun b m => by cases m)
  rw [← eR] at hb
  replace h := h R eR
  clear eR
  have lb : R.2.length ≤ 200 := by
    have := hb.2
    have : R.2.length = 0 + cs.length := this
    omega
  refine g_tupA rfl (gs_cons (g_name ⟨rfl, gs_cons (g_name ⟨rfl, gs_nil ?_⟩)⟩))
  refine s_frz (ds := R.2.map Bil.enc) 4 rfl put_same ?_
  rw [del_put np]
  exact s_ret (e_call (a_cons (e_var rfl (a_cons (e_var rfl (a_nil ⟨s, R.2, rfl, so, hb.1, lb, h⟩))))))
abbrev spLCnt : ASp := fun as Ω P => ∃ (s : Shop) (w : Str) (b : Bil), as = [.dat s.enc, .dat (.str w), .dat b.enc] ∧ s.Ok ∧ w ∈ wordL ∧ b.ds.length ≤ 100 ∧ P (.dat (.int (cnt s w b))) Ω
theorem ok_lcnt (T : Top K mg) : FnOk P w K mg base CX0 1 T.f__law_count T.d__law_count ["_law_shop", "_law_tag", "_law_slip"] (spA K spLCnt) := by
  refine fnA_ok T.D__law_count.F sc__law_count (fun as Ω P ⟨s, w, b, e, _⟩ => by subst e; rfl) (fun cdv A outer s H E hr => ?_)
  refine ⟨_, (pss_cons (ps_set (i := 3) sc__law_count.nd rfl (.inl rfl) (pe_callB (Dat.sumQ (K := K) rfl rfl) rfl T.b_sum bt_sum (pa_cons (pe_lc (own := [("_law_deed", 5), ("_law_size", 4)]) (g := (gTup K 2 (gCons (gName 5) (gCons (gName 4) gNil)))) (tt := tYes) rfl sc__law_count.nd (Dat.piT (K := K) rfl (pe_ix (Dat.ixT (K := K) rfl) (pv 2) pe_int (fun _ _ => rfl))) (blkOk_by (N := N__law_count) (sc := defScope s__law_count) (by decide +kernel)) (fun _ _ _ _ _ => (Dat.pgT (K := K) (n := 2) rfl rfl (pgs_cons (pg_name (i := 5) sc__law_count.nd rfl (Or.inl rfl)) (pgs_cons (pg_name (i := 4) sc__law_count.nd rfl (Or.inl rfl)) pgs_nil)))) (fun _ _ _ _ _ => pts_nil) (fun _ _ _ _ _ => (pv 4))) pa_nil)))
    (pss_cons (ps_set (i := 6) sc__law_count.nd rfl (.inl rfl) (pe_ix (Dat.ixT (K := K) rfl) (pv 0) pe_int (fun _ _ => rfl)))
    (pss_cons (ps_set (i := 7) sc__law_count.nd rfl (.inl rfl) (pe_op op_add (pe_op op_add (pe_op op_add (pe_op op_mul (pe_ix (Dat.ixT (K := K) rfl) (pv 2) pe_int (fun _ _ => rfl)) (pe_ix (Dat.ixT (K := K) rfl) (pv 6) pe_int (fun _ _ => rfl))) (pe_op op_mul (pe_ix (Dat.ixT (K := K) rfl) (pv 2) pe_int (fun _ _ => rfl)) (pe_ix (Dat.ixT (K := K) rfl) (pv 6) pe_int (fun _ _ => rfl)))) (pe_op op_mul (pe_ix (Dat.ixT (K := K) rfl) (pv 2) pe_int (fun _ _ => rfl)) (pe_ix (Dat.ixT (K := K) rfl) (pv 6) pe_int (fun _ _ => rfl)))) (pe_op op_mul (pe_ix (Dat.ixT (K := K) rfl) (pv 2) pe_int (fun _ _ => rfl)) (pe_ix (Dat.ixT (K := K) rfl) (pv 6) pe_int (fun _ _ => rfl)))))
    (pss_cons (ps_set (i := 8) sc__law_count.nd rfl (.inl rfl) (pe_disp (pps_cons pe_str (pe_ix (Dat.ixT (K := K) rfl) (pv 2) pe_int (fun _ _ => rfl)) (pps_cons pe_str (pe_ix (Dat.ixT (K := K) rfl) (pv 2) pe_int (fun _ _ => rfl)) (pps_cons pe_str (pe_ix (Dat.ixT (K := K) rfl) (pv 2) pe_int (fun _ _ => rfl)) (pps_cons pe_str (pe_ix (Dat.ixT (K := K) rfl) (pv 2) pe_int (fun _ _ => rfl)) (pps_cons pe_str (pe_ix (Dat.ixT (K := K) rfl) (pv 2) pe_int (fun _ _ => rfl)) pps_nil))))) rfl rfl (fun h => nomatch h) (by decide)))
    (pss_one (ps_ret (pe_dget2 (hu1 hr) (pe_disp (pps_cons pe_str (pv 3) (pps_cons pe_str (pv 7) pps_nil)) rfl rfl (fun h => nomatch h) (by decide)) (pv 1) (pe_dget1 (hu1 hr) (pv 8) (pv 1) ⟨rfl, rfl, rfl, rfl⟩) ⟨rfl, rfl, rfl, rfl⟩))))))), ?_⟩
  rintro as Ω P ⟨s, w, b, rfl, so, hw, hl, h⟩
  refine s_seq (s_asg (e_cb (a_cons (e_lcM b.ds (fun d => .dat (encDd d)) (fun d => .int d.2) (gn_tup (gns_cons (gn_name (by decide)) (gns_cons (gn_name (by decide)) gns_nil))) (by omega) ?_))))
  refine i_tup (e_op (e_var rfl (e_int (r_ixT rfl ⟨_, rfl, (by rw [List.map_map]; rfl), fun t Ω' _ _ => g_tup rfl (gs_cons (g_name ⟨rfl, gs_cons (g_name ⟨rfl, gs_nil ⟨rfl, e_var rfl ⟨rfl, rfl⟩⟩⟩)⟩)), ?_⟩))))
  rw [sum_ds]
  refine a_nil (c_sum ?_)
  obtain ⟨p0, p1, p2, p3, ep, h0, h1, h2, h3⟩ := prices_of so
  have e0 : pr s 0 = p0 := by unfold pr; rw [ep]; rfl
  have e1 : pr s 1 = p1 := by unfold pr; rw [ep]; rfl
  have e2 : pr s 2 = p2 := by unfold pr; rw [ep]; rfl
  have e3 : pr s 3 = p3 := by unfold pr; rw [ep]; rfl
  have ec : b.e * p0 + b.me * p1 + b.un * p2 + b.a * p3 = cnt s "cost" b := by
    unfold cnt
    rw [if_pos rfl, e0, e1, e2, e3, Int.mul_comm p0, Int.mul_comm p1, Int.mul_comm p2, Int.mul_comm p3]
    omega
  have cm : ∀ {a x : Int}, 0 ≤ a ∧ a ≤ 5 → CMul x a := fun h => .inr ⟨by omega, by omega⟩
  obtain ⟨n, zs, r1, r2, c1, c2, ks, lf, prs⟩ := s
  obtain rfl : prs = .tuple [.int p0, .int p1, .int p2, .int p3] := ep
  refine s_seq (s_asg (e_op (e_var rfl (e_int (r_ixT rfl ?_)))))
  refine s_seq (s_asg (e_op (e_op (e_op (e_op (e_op (e_var rfl (e_int (r_ixT rfl (e_op (e_var rfl (e_int (r_ixT rfl (r_Ii (cm h0) (e_op (e_op (e_var rfl (e_int (r_ixT rfl (e_op (e_var rfl (e_int (r_ixT rfl (r_Ii (cm h1) (r_I0i ?_)))))))))))))))))))))))))
  refine e_op (e_op (e_var rfl (e_int (r_ixT rfl (e_op (e_var rfl (e_int (r_ixT rfl (r_Ii (cm h2) (r_I0i (e_op (e_op (e_var rfl (e_int (r_ixT rfl (e_op (e_var rfl (e_int (r_ixT rfl (r_Ii (cm h3) (r_I0i ?_)))))))))))))))))))))
  rw [ec]
  refine s_seq (s_asg (e_disp (.cons (p_ixT rfl rfl) (.cons (p_ixT rfl rfl) (.cons (p_ixT rfl rfl) (.cons (p_ixT rfl rfl) (.cons (p_ixT rfl rfl) .nil))))) (by show 5 ≤ 15; decide) fun p => ?_))
  refine s_ret (e_dget2 (e_disp (.cons (p_var rfl) (.cons (p_var rfl) .nil)) (by show 2 ≤ 15; decide) fun q => ⟨q, _, rfl, e_var rfl (e_dget1 (e_var rfl ⟨p, _, rfl, e_var rfl ?_⟩))⟩))
  simp only [List.mem_cons, List.not_mem_nil, or_false] at hw
  rcases hw with rfl | rfl | rfl | rfl | rfl | rfl | rfl
  · exact ⟨_, some b.e, rfl, rfl, _, none, rfl, rfl, (fun n e => by cases e), fun _ => h⟩
  · exact ⟨_, some b.a, rfl, rfl, _, none, rfl, rfl, (fun n e => by cases e), fun _ => h⟩
  · exact ⟨_, some b.un, rfl, rfl, _, none, rfl, rfl, (fun n e => by cases e), fun _ => h⟩
  · exact ⟨_, some b.me, rfl, rfl, _, none, rfl, rfl, (fun n e => by cases e), fun _ => h⟩
  · exact ⟨_, some b.sv, rfl, rfl, _, none, rfl, rfl, (fun n e => by cases e), fun _ => h⟩
  · exact ⟨_, none, rfl, rfl, _, some (dsum b.ds), rfl, rfl, (fun n e => by cases e; exact h), fun e => by cases e⟩
  · exact ⟨_, none, rfl, rfl, _, some _, rfl, rfl, (fun n e => by cases e; exact h), fun e => by cases e⟩
def refD (a b c : Bool) : PyData := .list [.bool a, .bool b, .bool c]
abbrev spRef : ASp := fun as Ω P => ∃ (s : Shop) (wd d : PyData), as = [.dat s.enc, .dat wd, .dat d] ∧ s.Ok ∧ (whatD wd = false → P (.dat (refD false true true)) Ω) ∧
  (whatD wd = true → bW d ∧ (billD s d = false → P (.dat (refD true false true)) Ω) ∧ (billD s d = true → ∃ (b : Bil) (w : Str), d = b.enc ∧ b.ds.length ≤ 100 ∧ wd = .str w ∧ P (.dat (.list [])) Ω))
theorem ok_ref (T : Top K mg) : FnOk P w K mg base CX0 7 T.f__law_refused T.d__law_refused ["_law_shop", "_law_tag", "_law_slip"] (spA K spRef) := by
  have G_count_of : FnOk P w K mg base (L2.CX P w) 6 T.f_count_of T.d_count_of ["setup", "what", "bill"] (spX K (spCount T)) := ok_count T
  refine fnA_ok T.D__law_refused.F sc__law_refused (fun as Ω P ⟨s, wd, d, e, _⟩ => by subst e; rfl) (fun cdv A outer s H E hr => ?_)
  refine ⟨_, (pss_cons (ps_set (i := 3) sc__law_refused.nd rfl (.inl rfl) (pe_lst pa_nil))
    (pss_cons (ps_try_as (i := 4) rfl rfl sc__law_refused.nd rfl rfl ⟨rfl, by decide, .inl T.m_ParlourError⟩ L2.takes0 (fun W pn xe tk po => (pss_one (ps_expr (pe_callS G_count_of (hr.mono (by omega)) rfl T.D_count_of.g T.D_count_of.F.kp T.D_count_of.b (passAt tk) (pa_cons (pv 0) (pa_cons (pv 1) (pa_cons (pv 2) pa_nil)))))))
      (fun a oe cls d pn hz hf => (pss_one (ps_set (i := 3) sc__law_refused.nd rfl (.inl rfl) (pe_lst (pa_cons (pe_callB (call_isX hz hf) rfl T.b_isinstance bt_isinstance (pa_cons (pv 4) (pa_cons (pe_glob (v := .ref T.x_BadBill) rfl T.X_BadBill.g rfl) pa_nil))) (pa_cons (pe_callB (call_isX hz hf) rfl T.b_isinstance bt_isinstance (pa_cons (pv 4) (pa_cons (pe_glob (v := .ref T.x_BadWhat) rfl T.X_BadWhat.g rfl) pa_nil))) (pa_cons (pe_callB (call_isX hz hf) rfl T.b_isinstance bt_isinstance (pa_cons (pv 4) (pa_cons (pe_bltn (v := .ty "ValueError") rfl T.b_ValueError bt_ValueError rfl) pa_nil))) pa_nil))))))))
    (pss_one (ps_ret (pv 3))))), ?_⟩
  rintro as Ω P ⟨s, wd, d, rfl, so, h1, h2⟩
  refine s_seq (s_asg (e_lstD (a_nil ⟨_, .nil, rfl, ?_⟩)))
  refine s_seq (s_tryAs fun W => sx_call (a_cons (e_var rfl (a_cons (e_var rfl (a_cons (e_var rfl (a_nil ⟨s, wd, d, rfl, so, fun hw => ⟨T.h_BadWhat, fun a => ?_⟩, fun hw => ?_⟩))))))))
  · refine s_asg (e_lstD (a_cons (e_cb (a_cons (e_var rfl (a_cons (e_cls (a_nil (c_isX T.E_BadWhat T.i_WB (a_cons (e_cb (a_cons (e_var rfl (a_cons (e_cls (a_nil (c_isX T.E_BadWhat T.i_WW (a_cons (e_cb (a_cons (e_var rfl (a_cons (e_ty (a_nil (c_isXT T.E_BadWhat T.i_WV (a_nil ⟨_, .cons (.cons (.cons .nil)), rfl, ?_⟩))))))))))))))))))))))))))
    exact s_ret (e_var rfl (h1 hw))
  · obtain ⟨hb, h3, h4⟩ := h2 hw
    refine ⟨hb, fun z => ⟨T.h_BadBill, fun a => ?_⟩, fun z => ?_⟩
    · refine s_asg (e_lstD (a_cons (e_cb (a_cons (e_var rfl (a_cons (e_cls (a_nil (c_isX T.E_BadBill T.i_BB (a_cons (e_cb (a_cons (e_var rfl (a_cons (e_cls (a_nil (c_isX T.E_BadBill T.i_BW (a_cons (e_cb (a_cons (e_var rfl (a_cons (e_ty (a_nil (c_isXT T.E_BadBill T.i_BV (a_nil ⟨_, .cons (.cons (.cons .nil)), rfl, ?_⟩))))))))))))))))))))))))))
      exact s_ret (e_var rfl (h3 z))
    · obtain ⟨b, w, e1, hl, e2, h⟩ := h4 z
      exact ⟨b, w, e1, hl, e2, s_ret (e_var rfl h)⟩
end
end K38

set_option Elab.async false
set_option linter.all false
set_option maxRecDepth 100000
set_option maxHeartbeats 1000000
namespace K38
open PySem PySem.Spec PyProof.Rows L2 Dat LamX Clo
/-! ### a bill of the run is a bill of the setup -/
theorem last_of {m : Int} : ∀ {xs : List Int}, choiceD m (itup xs) = true → (∀ z ∈ xs, z ≤ lastI xs) ∧ lastI xs ∈ xs
  | [], h => by simp [choiceD] at h
  | [a], _ => ⟨fun z hz => by rw [List.mem_singleton.mp hz]; exact Int.le_refl a, List.mem_cons_self⟩
  | [a, b], h => by
    have h : a < b := by
      simp [choiceD, lt2] at h
      exact h.2
    refine ⟨fun z hz => ?_, List.mem_cons_of_mem _ List.mem_cons_self⟩
    show z ≤ b
    rcases List.mem_cons.mp hz with rfl | hz
    · omega
    · rw [List.mem_singleton.mp hz]
      exact Int.le_refl b
  | _ :: _ :: _ :: _, h => by simp [choiceD] at h
theorem sizes_last {s : Shop} (so : s.Ok) : (∀ z ∈ s.sizes, z ≤ lastI s.sizes) ∧ lastI s.sizes ∈ s.sizes := by
  have h := so.d
  simp only [setupD, Bool.and_eq_true] at h
  exact last_of h.2.1
theorem kinds_last {s : Shop} (so : s.Ok) : (∀ z ∈ s.kinds, z ≤ lastI s.kinds) ∧ lastI s.kinds ∈ s.kinds := by
  have h := so.d
  simp only [setupD, Bool.and_eq_true] at h
  exact last_of h.2.2.2.2.2.2.2.2.1
structure Fit (s : Shop) (b : Bil) : Prop where
  dd : ∀ d ∈ b.ds, (d.1 = "group" ∧ d.2 ∈ s.sizes) ∨ (d.1 = "single" ∧ d.2 = 1)
  n : dsum b.ds ≤ s.n
  e : b.e = 0 ∨ b.e = s.n - dsum b.ds
  s0 : 0 ≤ b.sv
  u0 : 0 ≤ b.un
  su : b.sv + b.un = dsum b.ds
  a0 : 0 ≤ b.a
  a1 : b.a ≤ s.c1 * lastI s.sizes + s.c2
  ol : b.op.length ≤ 2
  ob : ∀ k ∈ b.op, k ∈ s.kinds
  m0 : 0 ≤ b.me
  m1 : b.me ≤ if b.un > 0 then 0 else 2 * lastI s.kinds
theorem unDs_enc : ∀ ds : List (Str × Int), unDs (encD ds) = ds
  | [] => rfl
  | d :: r => by
    show (d.1, d.2) :: unDs (encD r) = _
    rw [unDs_enc r]
theorem any_ints {ns : List Int} {z : Int} : ((ns.map PyData.int).any fun e => PyData.eqv e (.int z)) = decide (z ∈ ns) := by
  induction ns with
  | nil => rfl
  | cons n r ih =>
    rw [List.map_cons, List.any_cons, ih]
    have : PyData.eqv (.int n) (.int z) = decide (n = z) := by
      rw [PyData.eqv]
      exact Bool.eq_iff_iff.mpr (by simp)
    rw [this]
    by_cases e : n = z
    · subst e
      simp
    · have e' : ¬ z = n := fun q => e q.symm
      simp [e, e']
theorem deed_enc {s : Shop} {d : Str × Int} (h : (d.1 = "group" ∧ d.2 ∈ s.sizes) ∨ (d.1 = "single" ∧ d.2 = 1)) : deedD s (encDd d) = true := by
  obtain ⟨w, n⟩ := d
  show ((decide (w = "group") && _) || (decide (w = "single") && decide (n = 1))) = true
  rw [any_ints]
  rcases h with ⟨h1, h2⟩ | ⟨h1, h2⟩
  · have h1 : w = "group" := h1
    have h2 : n ∈ s.sizes := h2
    rw [decide_eq_true h1, decide_eq_true h2]
    rfl
  · have h1 : w = "single" := h1
    have h2 : n = 1 := h2
    rw [decide_eq_true h1, decide_eq_true h2]
    simp
theorem Fit.bill {s : Shop} {b : Bil} (h : Fit s b) : billD s b.enc = true := by
  have e1 : (encD b.ds).all (deedD s) = true := List.all_eq_true.mpr fun x hx => by
    obtain ⟨d, hd, rfl⟩ := List.mem_map.mp hx
    exact deed_enc (h.dd d hd)
  have n := h.n
  have s0 := h.s0
  have u0 := h.u0
  have su := h.su
  have a0 := h.a0
  have a1 := h.a1
  have m0 := h.m0
  have m1 := h.m1
  have e2 : emD s (dsum b.ds) (.int b.e) = true := by
    show [PyData.int 0, .int (s.n - dsum b.ds)].any (fun x => PyData.eqv x (.int b.e)) = true
    rcases h.e with e | e <;> simp [PyData.eqv, e]
  have e3 : opAll s (itup b.op) = true := List.all_eq_true.mpr fun x hx => by
    obtain ⟨k, hk, rfl⟩ := List.mem_map.mp hx
    show ((s.kinds.map PyData.int).any fun e => PyData.eqv e (.int k)) = true
    rw [any_ints]
    exact decide_eq_true (h.ob k hk)
  have e4 : opLen (itup b.op) = true := decide_eq_true (by rw [List.length_map]; exact h.ol)
  show ((encD b.ds).all (deedD s) && restD s (dsum (unDs (encD b.ds))) (.int b.e) (.int b.a) (itup b.op) (.int b.sv) (.int b.un) (.int b.me)) = true
  rw [e1, unDs_enc, Bool.true_and]
  unfold restD
  rw [e2, e3, e4]
  have g1 : decide (dsum b.ds > s.n) = false := decide_eq_false (by omega)
  have g2 : inD 0 (dsum b.ds) (.int b.sv) = true := inD_of s0 (by omega)
  have g3 : decide (intOf (.int b.sv) + intOf (.int b.un) = dsum b.ds) = true := decide_eq_true su
  have g4 : inD 0 (s.c1 * lastI s.sizes + s.c2) (.int b.a) = true := inD_of a0 a1
  have g5 : inD 0 (if intOf (.int b.un) > 0 then 0 else 2 * lastI s.kinds) (.int b.me) = true := inD_of m0 m1
  rw [g1, g2, g3, g4, g5]
  rfl
/-! the line and the tubs of the run -/
structure HsF (s : Shop) (h : Hs) : Prop where
  ln : ∀ z ∈ h.line, z ∈ s.sizes
  tk : ∀ t ∈ h.ts, t.2 ≤ lastI s.kinds
structure FlF (s : Shop) (x : Fl) : Prop where
  ln : ∀ z ∈ x.line, z ∈ s.sizes
  dd : ∀ d ∈ x.ds, (d.1 = "group" ∧ d.2 ∈ s.sizes) ∨ (d.1 = "single" ∧ d.2 = 1)
theorem FlF.step {s : Shop} {x : Fl} {r : Rw} (h : FlF s x) (ro : r.Ok seatWs) (f : feas x.line x.sg x.left r.d = true) : FlF s (stepF x r) := by
  unfold stepF
  split
  · exact ⟨h.ln, h.dd⟩
  · next n1 =>
    split
    · next n2 =>
      rw [n2] at f
      obtain ⟨z, t, hl, hz⟩ := feas_group f
      have z1 := h.ln z (by rw [hl]; exact List.mem_cons_self ..)
      have ef : front x.line = z := by rw [hl]; rfl
      rw [ef]
      refine ⟨fun y hy => h.ln y (List.mem_of_mem_tail hy), fun d hd => ?_⟩
      rcases List.mem_append.mp hd with hd | hd
      · exact h.dd d hd
      · rw [List.mem_singleton.mp hd]
        exact .inl ⟨rfl, z1⟩
    · refine ⟨h.ln, fun d hd => ?_⟩
      rcases List.mem_append.mp hd with hd | hd
      · exact h.dd d hd
      · rw [List.mem_singleton.mp hd]
        exact .inr ⟨rfl, rfl⟩
theorem FlF.fill {s : Shop} {rs : List Rw} {por : Int} (ro : ∀ r ∈ rs, r.Ok seatWs) : ∀ (n : Nat) {x : Fl}, FlF s x → FlF s (fill rs por n x)
  | 0, _, h => h
  | n + 1, x, h => by
    unfold K38.fill
    split
    · exact h
    · next r e =>
      have m := List.mem_of_find?_eq_some e
      have p := fits_feas (List.find?_some e)
      split
      · exact h.step (ro r m) p
      · exact FlF.fill ro n (h.step (ro r m) p)
theorem comeL_in {s : Shop} (so : s.Ok) {r1 : Int} : ∀ {gs : List Int} {x : List Int × Int}, (∀ g ∈ gs, g ∈ s.sizes) → (∀ z ∈ x.1, z ∈ s.sizes) → (∀ z ∈ (comeL r1 gs x).1, z ∈ s.sizes) ∧ (comeL r1 gs x).2 ≤ x.2 + (gs.length : Int) * lastI s.sizes
  | [], x, _, h => ⟨h, by show x.2 ≤ x.2 + 0 * _; rw [Int.zero_mul]; omega⟩
  | g :: gs, x, hg, h => by
    have g1 := hg g List.mem_cons_self
    have g2 := (sizes_last so).1 g g1
    have g3 := so.zb g g1
    unfold comeL
    have q := comeL_in so (r1 := r1) (gs := gs) (x := if (x.1.length : Int) < r1 then (x.1 ++ [g], x.2) else (x.1, x.2 + g)) (fun z hz => hg z (List.mem_cons_of_mem _ hz)) (by
      split
      · intro z hz
        rcases List.mem_append.mp hz with hz | hz
        · exact h z hz
        · rw [List.mem_singleton.mp hz]
          exact g1
      · exact h)
    refine ⟨q.1, Int.le_trans q.2 ?_⟩
    have e : (if (x.1.length : Int) < r1 then (x.1 ++ [g], x.2) else (x.1, x.2 + g)).2 ≤ x.2 + lastI s.sizes := by
      split
      · show x.2 ≤ _
        omega
      · show x.2 + g ≤ _
        omega
    have e2 : ((g :: gs).length : Int) * lastI s.sizes = (gs.length : Int) * lastI s.sizes + lastI s.sizes := by
      rw [List.length_cons, Int.natCast_add, Int.add_mul]
      show _ + 1 * _ = _
      rw [Int.one_mul]
    omega
structure TlF (s : Shop) (x : Tl) : Prop where
  tk : ∀ t ∈ x.ts, t.2 ≤ lastI s.kinds
  ob : ∀ k ∈ x.op, k ∈ s.kinds
theorem kind_in {s : Shop} (so : s.Ok) (w : Str) : kindOf s w ∈ s.kinds := by
  unfold kindOf
  rcases kinds_cases so with ⟨a, e⟩ | ⟨a, b, e⟩ <;> rw [e] <;> split <;> simp
theorem TlF.open {s : Shop} {rs : List Rw} {asked wait : Int} (so : s.Ok) : ∀ (n : Nat) {x : Tl}, TlF s x → TlF s (openT s rs asked wait n x)
  | 0, _, h => h
  | n + 1, x, h => by
    unfold openT
    split
    · exact h
    · next r e =>
      split
      · next hd =>
        rw [stepT, if_pos hd]
        exact ⟨h.tk, h.ob⟩
      · next hd =>
        refine TlF.open so n ?_
        rw [stepT, if_neg hd]
        refine ⟨fun t ht => ?_, fun k hk => ?_⟩
        · rcases List.mem_append.mp ht with ht | ht
          · exact h.tk t ht
          · rw [List.mem_singleton.mp ht]
            exact (kinds_last so).1 _ (kind_in so r.d)
        · rcases List.mem_append.mp hk with hk | hk
          · exact h.ob k hk
          · rw [List.mem_singleton.mp hk]
            exact kind_in so r.d
theorem eats_all : ∀ {ts : List Tub} {l : Int}, 0 ≤ l → (∀ t ∈ ts, 0 ≤ t.2) → 0 < l - (eats l ts).sum → ∀ z ∈ ts.zip (eats l ts), z.1.2 = z.2
  | [], _, _, _, _, z, hz => by cases hz
  | t :: ts, l, h, ht, hs, z, hz => by
    have h0 := ht t List.mem_cons_self
    have hsum : (eats l (t :: ts)).sum = eatM t.2 l + (eats (l - eatM t.2 l) ts).sum := rfl
    have hm : eatM t.2 l = if l < t.2 then l else t.2 := rfl
    by_cases hl : l < t.2
    · rw [if_pos hl] at hm
      have g := (eats_ok (ts := ts) (l := l - eatM t.2 l) (by omega) fun x hx => ht x (List.mem_cons_of_mem _ hx)).2.1
      omega
    · rw [if_neg hl] at hm
      have g := eats_all (ts := ts) (l := l - eatM t.2 l) (by omega) (fun x hx => ht x (List.mem_cons_of_mem _ hx)) (by omega)
      rcases List.mem_cons.mp hz with rfl | hz
      · exact hm.symm
      · exact g z hz
theorem older_nil {asked : Int} {ts : List Tub} (h : 0 ≤ asked) (ht : ∀ t ∈ ts, 0 ≤ t.2) (hl : 0 < lackT asked ts) : older asked ts = [] := by
  unfold older
  rw [List.filter_eq_nil_iff.mpr fun z hz => ?_]
  · rfl
  · have := eats_all h ht hl z hz
    simp [this]
theorem sum_leK {k : Int} : ∀ {xs : List Int}, (∀ x ∈ xs, x ≤ k) → xs.sum ≤ k * (xs.length : Int)
  | [], _ => by simp
  | x :: xs, h => by
    have g := sum_leK (xs := xs) fun y hy => h y (List.mem_cons_of_mem _ hy)
    have := h x List.mem_cons_self
    rw [List.sum_cons, List.length_cons, Int.natCast_add, Int.mul_add]
    show x + xs.sum ≤ k * (xs.length : Int) + k * 1
    omega
theorem older_le {s : Shop} {asked : Int} {ts : List Tub} (h : 0 ≤ asked) (ht : ∀ t ∈ ts, TubOk t) (hk : ∀ t ∈ ts, t.2 ≤ lastI s.kinds) {t : Tub} (m : t ∈ older asked ts) : t.2 ≤ lastI s.kinds := by
  unfold older at m
  obtain ⟨z, hz, rfl⟩ := List.mem_map.mp m
  obtain ⟨hz, hg⟩ := List.mem_filter.mp hz
  have z1 := hk z.1 (List.of_mem_zip hz).1
  have z2 := (eats_ok h fun t m => by have := (ht t m).p1; omega).1 z.2 (List.of_mem_zip hz).2
  show z.1.2 - z.2 ≤ _
  omega
theorem run_fit {s : Shop} {rs ts : List Rw} {h : Hs} {c : Com} (so : s.Ok) (po : PlOk rs ts) (ho : HsOk s h) (hf : HsF s h) (co : c.Ok s) : Fit s (hB s rs ts h c) ∧ HsF s (hN s rs ts h c) := by
  have cl := comeL_in so (r1 := s.r1) (gs := c.gs) (x := (h.line, 0)) co.z hf.ln
  have ff : FlF s (hF s rs h c) := FlF.fill po.s.all _ ⟨cl.1, nofun⟩
  have dk : DsOk s (hF s rs h c) := beat_ds so po.s.all co ho.st
  have xk : TlOk (hX s ts h (hF s rs h c)) := hX_ok so po ho
  have xf : TlF s (hX s ts h (hF s rs h c)) := TlF.open so 9 ⟨hf.tk, nofun⟩
  have ds0 := dsum_len fun d hd => (dk.w d hd).2
  have d0 : 0 ≤ dsum (hF s rs h c).ds := by omega
  have tp : ∀ t ∈ (hX s ts h (hF s rs h c)).ts, 0 ≤ t.2 := fun t m => by have := (xk.tb t m).p1; omega
  have sm := eats_ok (ts := (hX s ts h (hF s rs h c)).ts) d0 tp
  have el : lackT (dsum (hF s rs h c).ds) (hX s ts h (hF s rs h c)).ts = dsum (hF s rs h c).ds - (eats (dsum (hF s rs h c).ds) (hX s ts h (hF s rs h c)).ts).sum := rfl
  have mk := melt_ok (s := s) d0 xk.tb xk.l2
  have cf := comeF_ok co ho.st.g0 ho.st.g2
  have aw := comeL_away so (gs := c.gs) (x := (h.line, 0)) co.z (Int.le_refl 0)
  have k1 := co.k1
  have k0 := co.k0
  have de := dk.e
  have dl := dk.l
  have ea : awayF s (hSt h) c = (comeL s.r1 c.gs (h.line, 0)).2 + c.k - comeF s h.sg c := rfl
  have cf' : 0 ≤ comeF s h.sg c ∧ comeF s h.sg c ≤ s.r2 - h.sg ∧ comeF s h.sg c ≤ c.k := cf
  have lp : 1 ≤ lastI s.sizes := (so.zb _ (sizes_last so).2).1
  have cg : (c.gs.length : Int) * lastI s.sizes ≤ s.c1 * lastI s.sizes := Int.mul_le_mul_of_nonneg_right co.g (by omega)
  refine ⟨⟨ff.dd, ?_, ?_, ?_, ?_, ?_, ?_, ?_, ?_, xf.ob, mk.1, ?_⟩, ff.ln, fun t m => older_le d0 xk.tb xf.tk (List.mem_filter.mp m).1⟩
  · show dsum (hF s rs h c).ds ≤ s.n
    omega
  · show emptyF (hF s rs h c) = 0 ∨ emptyF (hF s rs h c) = s.n - dsum (hF s rs h c).ds
    unfold emptyF
    split
    · exact .inr (by omega)
    · exact .inl rfl
  · show 0 ≤ dsum (hF s rs h c).ds - lackT (dsum (hF s rs h c).ds) (hX s ts h (hF s rs h c)).ts
    rw [el]
    omega
  · show 0 ≤ lackT (dsum (hF s rs h c).ds) (hX s ts h (hF s rs h c)).ts
    rw [el]
    omega
  · show dsum (hF s rs h c).ds - lackT (dsum (hF s rs h c).ds) (hX s ts h (hF s rs h c)).ts + lackT (dsum (hF s rs h c).ds) (hX s ts h (hF s rs h c)).ts = _
    show _ = dsum (hF s rs h c).ds
    omega
  · show 0 ≤ awayF s (hSt h) c
    rw [ea]
    have aw' : 0 ≤ (comeL s.r1 c.gs (h.line, 0)).2 := aw.1
    omega
  · show awayF s (hSt h) c ≤ _
    rw [ea]
    have c2 : (comeL s.r1 c.gs (h.line, 0)).2 ≤ 0 + (c.gs.length : Int) * lastI s.sizes := cl.2
    omega
  · exact Nat.le_trans xk.ol xk.l2
  · show meltT s (dsum (hF s rs h c).ds) (hX s ts h (hF s rs h c)).ts ≤ if lackT (dsum (hF s rs h c).ds) (hX s ts h (hF s rs h c)).ts > 0 then 0 else _
    split
    · next hl =>
      unfold meltT
      rw [older_nil d0 tp hl]
      exact Int.le_refl 0
    · have g := sum_leK (k := lastI s.kinds) (xs := ((older (dsum (hF s rs h c).ds) (hX s ts h (hF s rs h c)).ts).filter fun t => decide (t.1 = s.life)).map (·.2)) fun x hx => by
        obtain ⟨t, ht', rfl⟩ := List.mem_map.mp hx
        exact older_le d0 xk.tb xf.tk (List.mem_filter.mp ht').1
      have l := List.length_filter_le (fun t : Tub => decide (t.1 = s.life)) (older (dsum (hF s rs h c).ds) (hX s ts h (hF s rs h c)).ts)
      have l' := @older_len (dsum (hF s rs h c).ds) (hX s ts h (hF s rs h c)).ts
      have l2 := xk.l2
      have kp : 1 ≤ lastI s.kinds := (so.kb _ (kinds_last so).2).1
      rw [List.length_map] at g
      have q : lastI s.kinds * ((((older (dsum (hF s rs h c).ds) (hX s ts h (hF s rs h c)).ts).filter fun t : Tub => decide (t.1 = s.life)).length : Nat) : Int) ≤ lastI s.kinds * 2 := Int.mul_le_mul_of_nonneg_left (by omega) (by omega)
      unfold meltT
      omega
theorem hrun_fit {s : Shop} {rs ts : List Rw} (so : s.Ok) (po : PlOk rs ts) : ∀ {cs : List Com} {x : Hs × List Bil}, (∀ c ∈ cs, c.Ok s) → HsOk s x.1 → HsF s x.1 → (∀ b ∈ x.2, Fit s b) → ∀ b ∈ (hrun s rs ts cs x).2, Fit s b
  | [], x, _, _, _, hb => hb
  | c :: cs, x, hc, hx, hf, hb => by
    have co := hc c List.mem_cons_self
    have f := run_fit so po hx hf co
    exact hrun_fit so po (cs := cs) (x := (hN s rs ts x.1 c, x.2 ++ [hB s rs ts x.1 c])) (fun z hz => hc z (List.mem_cons_of_mem _ hz)) (hN_ok so po hx co) f.2 fun b m => by
      rcases List.mem_append.mp m with m | m
      · exact hb b m
      · rw [List.mem_singleton.mp m]
        exact f.1
end K38

set_option Elab.async false
set_option linter.all false
set_option maxRecDepth 100000
set_option maxHeartbeats 1000000
namespace K38
open PySem PySem.Spec PyProof.Rows L2 Dat LamX Clo
local macro_rules | `(tactic| trivial) => `(tactic| (first
  | (with_reducible refine s_seq ?_)
  | (with_reducible refine s_asg ?_)
  | (with_reducible refine s_ret ?_)
  | (with_reducible refine s_drop ?_)
  | (with_reducible refine s_next ?_)
  | (with_reducible refine s_retN ?_)
  | (with_reducible refine s_brk ?_)
  | (with_reducible refine s_cont ?_)
  | (with_reducible refine s_if ?_)
  | (with_reducible refine e_int ?_)
  | (with_reducible refine e_str ?_)
  | (with_reducible refine e_bl ?_)
  | (with_reducible refine e_non ?_)
  | (with_reducible refine e_ty ?_)
  | (with_reducible refine e_tupD ?_)
  | (with_reducible refine e_lstD ?_)
  | (with_reducible refine e_op ?_)
  | (with_reducible refine e_un ?_)
  | (with_reducible refine e_then ?_)
  | (with_reducible refine e_cb ?_)
  | (with_reducible refine e_call ?_)
  | (with_reducible refine e_if ?_)
  | (with_reducible refine e_chain ?_)
  | (with_reducible refine e_andV ?_)
  | (with_reducible refine e_orV ?_)
  | (with_reducible refine e_notV ?_)
  | (with_reducible refine a_cons ?_)
  | (with_reducible refine a_nil ?_)
  | (with_reducible refine t_test ?_)
  | (with_reducible refine t_B ?_)
  | (with_reducible refine t_not ?_)
  | (with_reducible refine t_and ?_)
  | (with_reducible refine t_or ?_)
  | (with_reducible refine r_I0i ?_)
  | (with_reducible refine r_I0b ?_)
  | (with_reducible refine r_neg ?_)
  | (with_reducible refine r_isN ?_)
  | (with_reducible refine r_notN ?_)
  | (with_reducible refine c_lenT ?_)
  | (with_reducible refine c_lenL ?_)
  | (with_reducible refine c_intI ?_)
  | (with_reducible refine c_intB ?_)
  | (with_reducible refine c_max2 ?_)
  | (with_reducible refine c_min2 ?_)
  | (with_reducible refine c_abs ?_)
  | (with_reducible refine r_tupL ?_)
  | (with_reducible refine r_tupT ?_)
  | (with_reducible refine c_allM ?_)
  | ((with_reducible apply e_var); (exact rfl))
  | ((with_reducible refine r_eq ?_ ?_); (exact rfl))
  | ((with_reducible refine r_ne ?_ ?_); (exact rfl))
  | (with_reducible refine c_isi kit_int ?_)
  | (with_reducible refine c_isi kit_bool ?_)
  | (with_reducible refine c_isi kit_tuple ?_)
  | (with_reducible refine c_isi kit_list ?_)
  | (with_reducible refine c_isi kit_str ?_)
  | ((with_reducible apply r_ixT); (exact rfl))
  | ((with_reducible apply dats_pack); (iterate 40 (first | exact Dats.nil | apply Dats.cons | skip)); (exact rfl))
  | (with_reducible refine s_asgG ?_) | (with_reducible refine g_name ?_) | ((with_reducible refine g_tup ?_ ?_); (exact rfl)) | (refine gs_nil ?_) | (refine gs_cons ?_) | (with_reducible refine ⟨rfl, ?_⟩)
  | (refine ⟨_, rfl, ?_⟩) | (refine ⟨_, _, rfl, ?_⟩) | (refine ⟨_, _, _, rfl, ?_⟩) | (with_reducible refine ⟨fun _ => ?_, fun _ => ?_⟩) | fail))
/-! ### a bill made at random -/
theorem at_kinds {s : Shop} (so : s.Ok) : atI (s.kinds.map PyData.int) (-1) = some (.int (lastI s.kinds)) := by
  rcases kinds_cases so with ⟨a, e⟩ | ⟨a, b, e⟩ <;> rw [e] <;> rfl
theorem at_sizes {s : Shop} (so : s.Ok) : atI (s.sizes.map PyData.int) (-1) = some (.int (lastI s.sizes)) := by
  rcases sizes_cases so with ⟨a, e⟩ | ⟨a, b, e⟩ <;> rw [e] <;> rfl
def DdF (s : Shop) (ds : List (Str × Int)) : Prop := ∀ d ∈ ds, (d.1 = "group" ∧ d.2 ∈ s.sizes) ∨ (d.1 = "single" ∧ d.2 = 1)
theorem DdF.snoc {s : Shop} {ds : List (Str × Int)} {d : Str × Int} (h : DdF s ds) (g : (d.1 = "group" ∧ d.2 ∈ s.sizes) ∨ (d.1 = "single" ∧ d.2 = 1)) : DdF s (ds ++ [d]) := fun x hx => by
  rcases List.mem_append.mp hx with hx | hx
  · exact h x hx
  · rw [List.mem_singleton.mp hx]
    exact g
theorem encD_snoc {ds : List (Str × Int)} {d : Str × Int} : encD ds ++ [.tuple [.str d.1, .int d.2]] = encD (ds ++ [d]) := (List.map_append (f := encDd) (l₁ := ds) (l₂ := [d])).symm
section
variable {P : Program} {w : World} {K : PySem.W.Frag} [Tb K] {mg : Str → Option Value} {base : Heap}
abbrev spMade : ASp := fun as Ω P => ∃ (Ω0 : AH) (p : Addr) (s : Shop) (a b c : Int) (n : Nat), as = [.ptr p, .dat s.enc] ∧ Ω = put Ω0 p (deckL a b c) ∧ DkOk n b c ∧ n ≤ 4500 ∧ s.Ok ∧ ∀ (x : Bil) a' b' c', DkOk (n + 30) b' c' → Fit s x → x.ds.length ≤ 4 → P (.dat x.enc) (put Ω0 p (deckL a' b' c'))
theorem ok_made (T : Top K mg) : FnOk P w K mg base CX0 2 T.f__law_made T.d__law_made ["_law_source_here", "_law_shop"] (spA K spMade) := by
  have G__law_draw : FnOk P w K mg base CX0 1 T.f__law_draw T.d__law_draw ["_law_source_here", "_law_bound"] (spA K spDraw) := ok_draw T
  refine fnA_ok T.D__law_made.F sc__law_made (fun as Ω P ⟨Ω0, p, s, a, b, c, n, e, _⟩ => by subst e; rfl) (fun cdv A outer s H E hr => ?_)
  refine ⟨_, (pss_cons (ps_par (i := 2) (j := 3) rfl sc__law_made.nd rfl rfl (by decide) rfl rfl (pa_cons (pe_tup pa_nil) (pa_cons (pe_ix (Dat.ixT (K := K) rfl) (pv 1) pe_int (fun _ _ => rfl)) pa_nil)) (by rfl))
    (pss_cons (ps_for PassesOwn.never rfl (pi_range1 rfl T.b_range (pa_cons (pe_call G__law_draw (hr.mono (by omega)) rfl T.D__law_draw.g T.D__law_draw.F.kp T.D__law_draw.b .nil pass0 (pa_cons (pv 0) (pa_cons pe_int pa_nil))) pa_nil)) (pg_name (i := 4) sc__law_made.nd rfl (.inl rfl))
      (pss_cons (ps_set (i := 5) sc__law_made.nd rfl (.inl rfl) (pe_ix (Dat.ixT (K := K) rfl) (pe_ix (Dat.ixT (K := K) rfl) (pv 1) pe_int (fun _ _ => rfl)) (pe_call G__law_draw (hr.mono (by omega)) rfl T.D__law_draw.g T.D__law_draw.F.kp T.D__law_draw.b .nil pass0 (pa_cons (pv 0) (pa_cons (pe_callB (Dat.lenQ (K := K) rfl) rfl T.b_len bt_len (pa_cons (pe_ix (Dat.ixT (K := K) rfl) (pv 1) pe_int (fun _ _ => rfl)) pa_nil)) pa_nil))) (fun _ _ => rfl)))
      (pss_one (ps_if (PW.pt (pw_and (pt_cmpR op_eq (pe_call G__law_draw (hr.mono (by omega)) rfl T.D__law_draw.g T.D__law_draw.F.kp T.D__law_draw.b .nil pass0 (pa_cons (pv 0) (pa_cons pe_int pa_nil))) pe_int (nomark _)) (pw_and1 (pt_cmpR op_le (pv 5) (pv 3) (nomark _)))))
        (pss_one (ps_par (i := 2) (j := 3) rfl sc__law_made.nd rfl rfl (by decide) rfl rfl (pa_cons (pe_op (Dat.catT (K := K) rfl) (pv 2) (pe_tup (pa_cons (pe_tup (pa_cons pe_str (pa_cons (pv 5) pa_nil))) pa_nil))) (pa_cons (pe_op op_sub (pv 3) (pv 5)) pa_nil)) (by rfl)))
        (pss_one (ps_if (pt_cmpR op_gt (pv 3) pe_int (nomark _))
          (pss_one (ps_par (i := 2) (j := 3) rfl sc__law_made.nd rfl rfl (by decide) rfl rfl (pa_cons (pe_op (Dat.catT (K := K) rfl) (pv 2) (pe_tup (pa_cons (pe_tup (pa_cons pe_str (pa_cons pe_int pa_nil))) pa_nil))) (pa_cons (pe_op op_sub (pv 3) pe_int) pa_nil)) (by rfl)))
          pss_nil))))))
    (pss_cons (ps_set (i := 6) sc__law_made.nd rfl (.inl rfl) (pe_op op_sub (pe_ix (Dat.ixT (K := K) rfl) (pv 1) pe_int (fun _ _ => rfl)) (pv 3)))
    (pss_cons (ps_set (i := 7) sc__law_made.nd rfl (.inl rfl) (pe_ix (Dat.ixL (K := K) rfl) (pe_lst (pa_cons (pv 6) (pa_cons (pe_call G__law_draw (hr.mono (by omega)) rfl T.D__law_draw.g T.D__law_draw.F.kp T.D__law_draw.b .nil pass0 (pa_cons (pv 0) (pa_cons (pe_op op_add (pv 6) pe_int) pa_nil))) pa_nil))) (pe_call G__law_draw (hr.mono (by omega)) rfl T.D__law_draw.g T.D__law_draw.F.kp T.D__law_draw.b .nil pass0 (pa_cons (pv 0) (pa_cons pe_int pa_nil))) (fun _ _ => rfl)))
    (pss_cons (ps_set (i := 8) sc__law_made.nd rfl (.inl rfl) (pe_op op_mul (pe_call G__law_draw (hr.mono (by omega)) rfl T.D__law_draw.g T.D__law_draw.F.kp T.D__law_draw.b .nil pass0 (pa_cons (pv 0) (pa_cons (pe_op op_add (pe_op op_mul pe_int (pe_ix (Dat.ixT (K := K) rfl) (pe_ix (Dat.ixT (K := K) rfl) (pv 1) pe_int (fun _ _ => rfl)) (pe_un un_neg pe_int) (fun _ _ => rfl))) pe_int) pa_nil))) (pe_callTy Dat.cl_int rfl T.b_int bt_int (pa_cons (pe_cmpR op_eq (pv 7) (pv 6) (nomark _)) pa_nil))))
    (pss_cons (ps_set (i := 9) sc__law_made.nd rfl (.inl rfl) (pe_op op_add (pe_op op_mul (pe_ix (Dat.ixT (K := K) rfl) (pe_ix (Dat.ixT (K := K) rfl) (pv 1) pe_int (fun _ _ => rfl)) pe_int (fun _ _ => rfl)) (pe_ix (Dat.ixT (K := K) rfl) (pe_ix (Dat.ixT (K := K) rfl) (pv 1) pe_int (fun _ _ => rfl)) (pe_un un_neg pe_int) (fun _ _ => rfl))) (pe_ix (Dat.ixT (K := K) rfl) (pe_ix (Dat.ixT (K := K) rfl) (pv 1) pe_int (fun _ _ => rfl)) pe_int (fun _ _ => rfl))))
    (pss_cons (ps_set (i := 10) sc__law_made.nd rfl (.inl rfl) (pe_ix (Dat.ixL (K := K) rfl) (pe_lst (pa_cons pe_int (pa_cons (pv 9) (pa_cons (pe_call G__law_draw (hr.mono (by omega)) rfl T.D__law_draw.g T.D__law_draw.F.kp T.D__law_draw.b .nil pass0 (pa_cons (pv 0) (pa_cons (pe_op op_add (pv 9) pe_int) pa_nil))) pa_nil)))) (pe_call G__law_draw (hr.mono (by omega)) rfl T.D__law_draw.g T.D__law_draw.F.kp T.D__law_draw.b .nil pass0 (pa_cons (pv 0) (pa_cons pe_int pa_nil))) (fun _ _ => rfl)))
    (pss_cons (ps_set (i := 11) sc__law_made.nd rfl (.inl rfl) (Dat.pe_tupleK (K := K) rfl rfl T.b_tuple (pe_lc (own := [("_law_tub", 12)]) (g := (gName 12)) (tt := tYes) rfl sc__law_made.nd (pi_range1 rfl T.b_range (pa_cons (pe_call G__law_draw (hr.mono (by omega)) rfl T.D__law_draw.g T.D__law_draw.F.kp T.D__law_draw.b .nil pass0 (pa_cons (pv 0) (pa_cons pe_int pa_nil))) pa_nil)) (blkOk_by (N := N__law_made) (sc := defScope s__law_made) (by decide +kernel)) (fun _ _ _ _ _ => (pg_name (i := 12) sc__law_made.nd rfl (Or.inl rfl))) (fun _ _ _ _ _ => pts_nil) (fun _ _ _ _ _ => (pe_ix (Dat.ixT (K := K) rfl) (pe_ix (Dat.ixT (K := K) rfl) (pv 1) pe_int (fun _ _ => rfl)) (pe_call G__law_draw (hr.mono (by omega)) rfl T.D__law_draw.g T.D__law_draw.F.kp T.D__law_draw.b .nil pass0 (pa_cons (pv 0) (pa_cons (pe_callB (Dat.lenQ (K := K) rfl) rfl T.b_len bt_len (pa_cons (pe_ix (Dat.ixT (K := K) rfl) (pv 1) pe_int (fun _ _ => rfl)) pa_nil)) pa_nil))) (fun _ _ => rfl))))))
    (pss_one (ps_ret (pe_tup (pa_cons (pv 2) (pa_cons (pe_ix (Dat.ixL (K := K) rfl) (pe_lst (pa_cons pe_int (pa_cons (pv 3) pa_nil))) (pe_call G__law_draw (hr.mono (by omega)) rfl T.D__law_draw.g T.D__law_draw.F.kp T.D__law_draw.b .nil pass0 (pa_cons (pv 0) (pa_cons pe_int pa_nil))) (fun _ _ => rfl)) (pa_cons (pv 10) (pa_cons (pv 11) (pa_cons (pv 7) (pa_cons (pe_op op_sub (pv 6) (pv 7)) (pa_cons (pv 8) pa_nil)))))))))))))))))), ?_⟩
  rintro as Ω P ⟨Ω0, p, s, a, b, c, n, rfl, rfl, dk, hn, so, h⟩
  have n1 := so.n1
  have n4 := so.n4
  have z1 := so.z1
  have z2 := so.z2
  have k1 := so.k1
  have k2 := so.k2
  have c10 := so.c10
  have c11 := so.c11
  have c20 := so.c20
  have c22 := so.c22
  have ls := so.zb _ (sizes_last so).2
  have lk := so.kb _ (kinds_last so).2
  refine s_seq (s_par (a_cons (e_tupD (a_nil ⟨[], .nil, rfl, a_cons (e_op (e_var rfl (e_int (r_ixT rfl (a_nil ⟨_, _, rfl, ?_⟩)))))⟩))))
  refine s_seqM (fun Γ' Ω' => ∃ (D : List PyData) (ds : List (Str × Int)) (l a b c : Int) (x y : Option Av), D = encD ds ∧ DdF s ds ∧ dsum ds + l = s.n ∧ 0 ≤ l ∧ ds.length ≤ 4 ∧ DkOk (n + 10) b c ∧
    Γ' = [some (.ptr p), some (.dat s.enc), some (.dat (.tuple D)), some (.dat (.int l)), x, y, none, none, none, none, none, none, none] ∧ Ω' = put Ω0 p (deckL a b c)) ?_ ?_
  · refine s_for (fun as i Γ' Ω' => as.length ≤ 4 ∧ ∃ (D : List PyData) (ds : List (Str × Int)) (l a b c : Int) (x y : Option Av), D = encD ds ∧ DdF s ds ∧ dsum ds + l = s.n ∧ 0 ≤ l ∧ ds.length ≤ i ∧ DkOk (n + 1 + 2 * i) b c ∧
      Γ' = [some (.ptr p), some (.dat s.enc), some (.dat (.tuple D)), some (.dat (.int l)), x, y, none, none, none, none, none, none, none] ∧ Ω' = put Ω0 p (deckL a b c)) ?_
    refine i_rng1 (a_cons (e_drawN rfl dk (by omega) (by decide) (by decide) fun t a b c dk t0 t1 => a_nil ⟨t, rfl, ⟨by omega, by omega⟩, ⟨⟨?_, [], [], s.n, a, b, c, none, none, rfl, nofun, by show (0 : Int) + s.n = s.n; omega, by omega, Nat.le_refl _, dk, rfl, rfl⟩, ?_, ?_⟩⟩))
    · unfold rngA
      rw [List.length_map, List.length_range]
      omega
    · rintro i it Γ' Ω' hit ⟨hl, D, ds, l, a, b, c, x, y, eD, hd, es, l0, dl, dk, rfl, rfl⟩
      have hi := (List.getElem?_eq_some_iff.mp hit).1
      have lD : D.length ≤ 4 := by rw [eD, List.length_map]; omega
      refine g_name ?_
      refine s_seq (s_asg (e_op (e_op (e_var rfl (e_int (r_ixT rfl (e_draw rfl (e_cb (a_cons (e_op (e_var rfl (e_int (r_ixT rfl (a_nil (c_lenT ⟨_, a, b, c, _, rfl, rfl, dk, by omega, by rw [List.length_map]; omega, by rw [List.length_map]; omega, fun v a b c dk v0 v1 => r_ixT_any v0 v1 fun d hz => ?_⟩)))))))))))))))
      obtain ⟨z, hzm, rfl⟩ := List.mem_map.mp hz
      have zz := so.zb z hzm
      refine s_if (t_and (t_test (e_op (e_drawN rfl dk (by omega) (by decide) (by decide) fun u a b c dk u0 u1 => e_int (r_eq rfl ⟨_, rfl, fun hu => ?_, fun hu => ?_⟩)))))
      · refine t_test (e_op (e_var rfl (e_var rfl (r_I0b ⟨_, rfl, fun hz' => ?_, fun hz' => ?_⟩))))
        · have hz' := of_decide_eq_true hz'
          refine s_par (a_cons (e_op (e_var rfl (e_tupD (a_cons (e_tupD (a_cons (e_str (a_cons (e_var rfl (a_nil ⟨_, .cons (.cons .nil), rfl, a_nil ⟨_, .cons .nil, rfl, r_catT (by show D.length + 1 ≤ 100000; omega) (a_cons (e_op (e_var rfl (e_var rfl (r_I0i (a_nil ⟨_, _, rfl, ?_⟩))))))⟩⟩)))))))))))
          exact ⟨hl, _, ds ++ [(("group" : Str), z)], l - z, a, b, c, _, _, by rw [eD]; exact encD_snoc (d := (("group" : Str), z)), hd.snoc (.inl ⟨rfl, hzm⟩), by rw [dsum_app]; show dsum ds + z + (l - z) = s.n; omega, by omega, by rw [List.length_append]; show ds.length + 1 ≤ i + 1; omega, dk.mono (by omega), rfl, rfl⟩
        · refine s_if (t_test (e_op (e_var rfl (e_int (r_I0b ⟨_, rfl, fun hl' => ?_, fun hl' => s_next ⟨hl, D, ds, l, a, b, c, _, _, eD, hd, es, l0, by omega, dk.mono (by omega), rfl, rfl⟩⟩)))))
          have hl' := of_decide_eq_true hl'
          refine s_par (a_cons (e_op (e_var rfl (e_tupD (a_cons (e_tupD (a_cons (e_str (a_cons (e_int (a_nil ⟨_, .cons (.cons .nil), rfl, a_nil ⟨_, .cons .nil, rfl, r_catT (by show D.length + 1 ≤ 100000; omega) (a_cons (e_op (e_var rfl (e_int (r_I0i (a_nil ⟨_, _, rfl, ?_⟩))))))⟩⟩)))))))))))
          exact ⟨hl, _, ds ++ [(("single" : Str), (1 : Int))], l - 1, a, b, c, _, _, by rw [eD]; exact encD_snoc (d := (("single" : Str), (1 : Int))), hd.snoc (.inr ⟨rfl, rfl⟩), by rw [dsum_app]; show dsum ds + 1 + (l - 1) = s.n; omega, by omega, by rw [List.length_append]; show ds.length + 1 ≤ i + 1; omega, dk.mono (by omega), rfl, rfl⟩
      · refine ⟨fun z => (by cases z), fun _ => ?_⟩
        refine s_if (t_test (e_op (e_var rfl (e_int (r_I0b ⟨_, rfl, fun hl' => ?_, fun hl' => s_next ⟨hl, D, ds, l, a, b, c, _, _, eD, hd, es, l0, by omega, dk.mono (by omega), rfl, rfl⟩⟩)))))
        have hl' := of_decide_eq_true hl'
        refine s_par (a_cons (e_op (e_var rfl (e_tupD (a_cons (e_tupD (a_cons (e_str (a_cons (e_int (a_nil ⟨_, .cons (.cons .nil), rfl, a_nil ⟨_, .cons .nil, rfl, r_catT (by show D.length + 1 ≤ 100000; omega) (a_cons (e_op (e_var rfl (e_int (r_I0i (a_nil ⟨_, _, rfl, ?_⟩))))))⟩⟩)))))))))))
        exact ⟨hl, _, ds ++ [(("single" : Str), (1 : Int))], l - 1, a, b, c, _, _, by rw [eD]; exact encD_snoc (d := (("single" : Str), (1 : Int))), hd.snoc (.inr ⟨rfl, rfl⟩), by rw [dsum_app]; show dsum ds + 1 + (l - 1) = s.n; omega, by omega, by rw [List.length_append]; show ds.length + 1 ≤ i + 1; omega, dk.mono (by omega), rfl, rfl⟩
    · rintro Γ' Ω' ⟨hl, D, ds, l, a, b, c, x, y, eD, hd, es, l0, dl, dk, rfl, rfl⟩
      exact ⟨D, ds, l, a, b, c, x, y, eD, hd, es, l0, by omega, dk.mono (by omega), rfl, rfl⟩
  rintro Γ' Ω' ⟨D, ds, l, a, b, c, x, y, rfl, hd, es, l0, dl, dk, rfl, rfl⟩
  have ea : s.n - l = dsum ds := by omega
  have a0 : 0 ≤ dsum ds := by
    have := dsum_len (ds := ds) fun d hd' => by
      rcases hd d hd' with ⟨_, g⟩ | ⟨_, g⟩
      · exact (so.zb _ g).1
      · omega
    omega
  refine s_seq (s_asg (e_op (e_op (e_var rfl (e_int (r_ixT rfl (e_var rfl (r_I0i ?_))))))))
  rw [ea]
  refine s_seq (s_asg (e_op (e_lstD (a_cons (e_var rfl (a_cons (e_draw rfl (e_op (e_var rfl (e_int (r_I0i ⟨_, a, b, c, _, rfl, rfl, dk, by omega, by omega, by omega, fun v a b c dk v0 v1 => a_nil ⟨_, .cons (.cons .nil), rfl, e_drawN rfl dk (by omega) (by decide) (by decide) fun u a b c dk u0 u1 => r_ixL_any u0 u1 fun d hsv => ?_⟩⟩)))))))))))
  obtain ⟨sv, rfl, s0, s1⟩ : ∃ sv, d = .int sv ∧ 0 ≤ sv ∧ sv ≤ dsum ds := by
    simp only [List.mem_cons, List.not_mem_nil, or_false] at hsv
    rcases hsv with rfl | rfl
    · exact ⟨_, rfl, by omega, by omega⟩
    · exact ⟨_, rfl, by omega, by omega⟩
  clear hsv u0 u1 v0 v1 u v
  refine s_seq (s_asg (e_op (e_draw rfl (e_op (e_op (e_int (e_op (e_op (e_var rfl (e_int (r_ixT rfl (e_un (e_int (r_neg (r_ixT (at_kinds so) (r_Ii (by exact .inl ⟨by decide, by decide⟩) (e_int (r_I0i ⟨_, a, b, c, _, rfl, rfl, dk, by omega, by omega, by omega, fun v a b c dk v0 v1 => ?_⟩))))))))))))))))))
  refine e_cb (a_cons (e_op (e_var rfl (e_var rfl (r_eq rfl (a_nil (c_intB (r_Ii (by exact .inl ⟨by omega, by omega⟩) ?_))))))))
  obtain ⟨me, hme⟩ : ∃ me, me = v * (if decide (sv = dsum ds) = true then 1 else 0) := ⟨_, rfl⟩
  have m0 : 0 ≤ me ∧ me ≤ 2 * lastI s.kinds ∧ (sv ≠ dsum ds → me = 0) := by
    rw [hme]
    by_cases e : sv = dsum ds
    · rw [decide_eq_true e, if_pos rfl, Int.mul_one]
      exact ⟨v0, by omega, fun n => absurd e n⟩
    · rw [decide_eq_false e, if_neg (by decide), Int.mul_zero]
      exact ⟨by omega, by omega, fun _ => rfl⟩
  show SW K _ (List.set _ 8 (some (.dat (.int (v * (if decide (sv = dsum ds) = true then 1 else 0)))))) _ _
  rw [← hme]
  clear hme v0 v1 v
  refine s_seq (s_asg (e_op (e_op (e_op (e_op (e_var rfl (e_int (r_ixT rfl (e_int (r_ixT rfl (e_op (e_op (e_var rfl (e_int (r_ixT rfl (e_un (e_int (r_neg (r_ixT (at_sizes so) (r_Ii (by exact .inl ⟨by omega, by omega⟩) (e_op (e_op (e_var rfl (e_int (r_ixT rfl (e_int (r_ixT rfl (r_I0i ?_))))))))))))))))))))))))))))
  obtain ⟨mo, hmo⟩ : ∃ mo, mo = s.c1 * lastI s.sizes + s.c2 := ⟨_, rfl⟩
  have mo0 : 0 ≤ mo ∧ mo ≤ 100 := by
    rcases (show s.c1 = 0 ∨ s.c1 = 1 by omega) with e | e <;> rw [e] at hmo <;> omega
  rw [← hmo]
  refine s_seq (s_asg (e_op (e_lstD (a_cons (e_int (a_cons (e_var rfl (a_cons (e_draw rfl (e_op (e_var rfl (e_int (r_I0i ⟨_, a, b, c, _, rfl, rfl, dk, by omega, by omega, by omega, fun v a b c dk v0 v1 => a_nil ⟨_, .cons (.cons (.cons .nil)), rfl, e_drawN rfl dk (by omega) (by decide) (by decide) fun u a b c dk u0 u1 => r_ixL_any u0 u1 fun d hsv => ?_⟩⟩)))))))))))))
  obtain ⟨aw, rfl, w0, w1⟩ : ∃ aw, d = .int aw ∧ 0 ≤ aw ∧ aw ≤ mo := by
    simp only [List.mem_cons, List.not_mem_nil, or_false] at hsv
    rcases hsv with rfl | rfl | rfl
    · exact ⟨_, rfl, by omega, by omega⟩
    · exact ⟨_, rfl, by omega, by omega⟩
    · exact ⟨_, rfl, by omega, by omega⟩
  clear hsv u0 u1 v0 v1 u v
  refine s_seqM (fun Γ' Ω' => ∃ (op : List Int) (a b c : Int) (z : Option Av), op.length ≤ 2 ∧ (∀ k ∈ op, k ∈ s.kinds) ∧ DkOk (n + 25) b c ∧
    Γ' = [some (.ptr p), some (.dat s.enc), some (.dat (.tuple (encD ds))), some (.dat (.int l)), x, y, some (.dat (.int (dsum ds))), some (.dat (.int sv)), some (.dat (.int me)), some (.dat (.int mo)), some (.dat (.int aw)), some (.dat (itup op)), z] ∧ Ω' = put Ω0 p (deckL a b c)) ?_ ?_
  · refine s_asg (e_then ?_)
    refine e_lc (gn_name (by decide)) (fun D as j acc Ω' => Ω0 D = none ∧ D ≠ p ∧ ∃ (op : List Int) (a b c : Int), as.length ≤ 2 ∧ acc = (op.map PyData.int).map .dat ∧ op.length = j ∧ j ≤ as.length ∧ (∀ k ∈ op, k ∈ s.kinds) ∧ DkOk (n + 20 + j) b c ∧ Ω' = put (put Ω0 D acc) p (deckL a b c)) ?_
    refine i_rng1 (a_cons (e_drawN rfl dk (by omega) (by decide) (by decide) fun t a b c dk t0 t1 => a_nil ⟨t, rfl, ⟨by omega, by omega⟩, by (unfold rngA; rw [List.length_map, List.length_range]; omega), fun D nD => ⟨?_, fun j x acc Ω' ex hM => ?_, fun acc Ω' hM => ?_⟩⟩))
    · have ne : D ≠ p := fun e => by rw [e, put_same] at nD; cases nD
      rw [put_ne ne] at nD
      exact ⟨nD, ne, [], a, b, c, by (unfold rngA; rw [List.length_map, List.length_range]; omega), rfl, rfl, Nat.zero_le _, nofun, dk.mono (by omega), Dat.put_comm ne.symm⟩
    · obtain ⟨nD, ne, op, a, b, c, l2, rfl, hl', _, hb, dk, rfl⟩ := hM
      have hj := (List.getElem?_eq_some_iff.mp ex).1
      refine ⟨by rw [put_ne ne, put_same], by rw [List.length_map, List.length_map]; omega, g_name (t_yes ⟨fun _ => ?_, nofun⟩)⟩
      refine e_op (e_op (e_var rfl (e_int (r_ixT rfl (e_draw rfl (e_cb (a_cons (e_op (e_var rfl (e_int (r_ixT rfl (a_nil (c_lenT ⟨_, a, b, c, _, rfl, rfl, dk, by omega, by rw [List.length_map]; omega, by rw [List.length_map]; omega, fun v a b c dk v0 v1 => r_ixT_any v0 v1 fun d hz => ?_⟩)))))))))))))
      obtain ⟨k, hk, rfl⟩ := List.mem_map.mp hz
      refine ⟨by rw [put_ne ne, put_same], nD, ne, op ++ [k], a, b, c, l2, by simp, by simp [hl'], hj, fun q hq => ?_, dk.mono (by omega), ?_⟩
      · rcases List.mem_append.mp hq with hq | hq
        · exact hb q hq
        · rw [List.mem_singleton.mp hq]
          exact hk
      · rw [Dat.put_comm ne.symm, put_put]
    · obtain ⟨nD, ne, op, a, b, c, l2, rfl, hl', hj, hb, dk, rfl⟩ := hM
      refine r_tupP (by rw [put_ne ne, put_same]) ⟨op, a, b, c, _, by omega, hb, dk.mono (by omega), rfl, ?_⟩
      rw [Dat.put_comm ne, del_put (by rw [put_ne ne]; exact nD)]
  rintro Γ' Ω' ⟨op, a, b, c, z, ol, ob, dk, rfl, rfl⟩
  refine s_ret (e_tupD (a_cons (e_var rfl (a_cons (e_op (e_lstD (a_cons (e_int (a_cons (e_var rfl (a_nil ⟨_, .cons (.cons .nil), rfl, e_drawN rfl dk (by omega) (by decide) (by decide) fun u a b c dk u0 u1 => r_ixL_any u0 u1 fun d hsv => ?_⟩)))))))))))
  obtain ⟨em, rfl, he⟩ : ∃ em, d = .int em ∧ (em = 0 ∨ em = s.n - dsum ds) := by
    simp only [List.mem_cons, List.not_mem_nil, or_false] at hsv
    rcases hsv with rfl | rfl
    · exact ⟨_, rfl, .inl rfl⟩
    · exact ⟨_, rfl, .inr (by omega)⟩
  refine a_cons (e_var rfl (a_cons (e_var rfl (a_cons (e_var rfl (a_cons (e_op (e_var rfl (e_var rfl (r_I0i (a_cons (e_var rfl (a_nil ⟨_, .cons (.cons (.cons (.cons (.cons (.cons (.cons .nil)))))), rfl, ?_⟩)))))))))))))
  refine h ⟨ds, em, aw, op, sv, dsum ds - sv, me⟩ a b c (dk.mono (by omega)) ⟨hd, by show dsum ds ≤ s.n; omega, he, s0, by show 0 ≤ dsum ds - sv; omega, by show sv + (dsum ds - sv) = dsum ds; omega, w0, by show aw ≤ s.c1 * lastI s.sizes + s.c2; omega, ol, ob, m0.1, ?_⟩ dl
  show me ≤ if dsum ds - sv > 0 then 0 else 2 * lastI s.kinds
  split
  · rw [m0.2.2 (by omega)]
    exact Int.le_refl 0
  · exact m0.2.1
end
end K38

set_option Elab.async false
set_option linter.all false
set_option maxRecDepth 100000
set_option maxHeartbeats 1000000
namespace K38
open PySem PySem.Spec PyProof.Rows L2 Dat LamX Clo
/-! ### what is no bill -/
theorem ints_of : ∀ {s : Shop} {ks : List PyData}, ks.all (kindD s) = true → ∃ ns : List Int, ks = ns.map PyData.int ∧ ∀ n ∈ ns, n ∈ s.kinds
  | _, [], _ => ⟨[], rfl, nofun⟩
  | s, k :: r, h => by
    rw [List.all_cons, Bool.and_eq_true] at h
    obtain ⟨ns, rfl, hn⟩ := ints_of h.2
    have h1 := h.1
    unfold kindD at h1
    split at h1
    · next n =>
      rw [any_ints] at h1
      have h1 := of_decide_eq_true h1
      refine ⟨n :: ns, rfl, fun x hx => ?_⟩
      rcases List.mem_cons.mp hx with rfl | hx
      · exact h1
      · exact hn x hx
    · cases h1
theorem deed_inv {s : Shop} {d : Str × Int} (h : deedD s (encDd d) = true) : (d.1 = "group" ∧ d.2 ∈ s.sizes) ∨ (d.1 = "single" ∧ d.2 = 1) := by
  obtain ⟨w, n⟩ := d
  have h : ((decide (w = "group") && ((s.sizes.map PyData.int).any fun e => PyData.eqv e (.int n))) || (decide (w = "single") && decide (n = 1))) = true := h
  rw [any_ints] at h
  simpa using h
theorem bill_inv {s : Shop} {d0 e a op sv un me : PyData} (h : billD s (.tuple [d0, e, a, op, sv, un, me]) = true) :
    ∃ y : Bil, d0 = .tuple (encD y.ds) ∧ e = .int y.e ∧ a = .int y.a ∧ op = itup y.op ∧ sv = .int y.sv ∧ un = .int y.un ∧ me = .int y.me ∧ Fit s y := by
  rcases tup_or d0 with ⟨ds, rfl⟩ | hn
  · have h : (ds.all (deedD s) && restD s (dsum (unDs ds)) e a op sv un me) = true := h
    rw [Bool.and_eq_true] at h
    obtain ⟨h1, h2⟩ := h
    have ed := all_deed h1
    have hd : ∀ d ∈ unDs ds, (d.1 = "group" ∧ d.2 ∈ s.sizes) ∨ (d.1 = "single" ∧ d.2 = 1) := fun d m => deed_inv (List.all_eq_true.mp h1 _ (by rw [ed]; exact List.mem_map_of_mem (f := encDd) m))
    unfold restD at h2
    simp only [Bool.and_eq_true, Bool.not_eq_true', Bool.or_eq_false_iff, Bool.not_eq_false', decide_eq_true_eq, decide_eq_false_iff_not] at h2
    obtain ⟨⟨n1, e1, e2⟩, ⟨s1, u1, su⟩, a1, t1, l1, o1, m1⟩ := h2
    obtain ⟨e', rfl⟩ := wh_or e1
    obtain ⟨sv', rfl, s0, s2⟩ := inD_or s1
    obtain ⟨un', rfl⟩ := wh_or u1
    obtain ⟨a', rfl, a0, a2⟩ := inD_or a1
    obtain ⟨me', rfl, m0, m2⟩ := inD_or m1
    rcases tup_or op with ⟨ks, rfl⟩ | hn
    · obtain ⟨ns, rfl, hns⟩ := ints_of o1
      have su : sv' + un' = dsum (unDs ds) := su
      have e3 : e' = 0 ∨ e' = s.n - dsum (unDs ds) := by
        have e2 : [PyData.int 0, .int (s.n - dsum (unDs ds))].any (fun x => PyData.eqv x (.int e')) = true := e2
        simp only [List.any_cons, List.any_nil, Bool.or_false, Bool.or_eq_true, PyData.eqv, beq_iff_eq] at e2
        omega
      have l2 : ns.length ≤ 2 := by
        have := of_decide_eq_true l1
        rw [List.length_map] at this
        exact this
      exact ⟨⟨unDs ds, e', a', ns, sv', un', me'⟩, by rw [← ed], rfl, rfl, rfl, rfl, rfl, rfl, ⟨hd, by show dsum (unDs ds) ≤ s.n; omega, e3, s0, by show 0 ≤ un'; omega, su, a0, a2, l2, hns, m0, m2⟩⟩
    · rw [hn] at t1
      cases t1
  · cases d0 <;> first | (cases hn; done) | cases h
def Bad (s : Shop) (d : PyData) : Prop := bW d ∧ billD s d = false
theorem bad_of {s : Shop} {d : PyData} (h : bW d) (g : billD s d = true → False) : Bad s d := ⟨h, Bool.eq_false_iff.mpr g⟩
theorem dW_enc {d : Str × Int} : dW (encDd d) := fun w x e => ⟨d.1, by cases e; rfl⟩
theorem bW_enc {us : List (Str × Int)} {r : List PyData} (h : us.length ≤ 100) : bW (.tuple (.tuple (encD us) :: r)) := fun ds q e => by
  have e := PyData.tuple.inj e
  have e := PyData.tuple.inj (List.cons.inj e).1
  subst e
  refine ⟨fun x hx => ?_, by rw [List.length_map]; exact h⟩
  obtain ⟨d, _, rfl⟩ := List.mem_map.mp hx
  exact dW_enc
theorem enc_inj {us vs : List (Str × Int)} (h : encD us = encD vs) : us = vs := by rw [← unDs_enc us, h, unDs_enc]
theorem bad7 {s : Shop} {us : List (Str × Int)} {e a op sv un me : PyData} (hu : us.length ≤ 100)
    (g : ∀ y : Bil, y.ds = us → e = .int y.e → a = .int y.a → op = itup y.op → sv = .int y.sv → un = .int y.un → me = .int y.me → Fit s y → False) : Bad s (.tuple [.tuple (encD us), e, a, op, sv, un, me]) :=
  bad_of (bW_enc hu) fun h => by
    obtain ⟨y, e0, h1, h2, h3, h4, h5, h6, f⟩ := bill_inv h
    exact g y (enc_inj (PyData.tuple.inj e0)).symm h1 h2 h3 h4 h5 h6 f
theorem badN {s : Shop} {us : List (Str × Int)} {r : List PyData} (hu : us.length ≤ 100) (hl : r.length ≠ 6) : Bad s (.tuple (.tuple (encD us) :: r)) :=
  bad_of (bW_enc hu) fun h => by
    rw [billD_no (by rw [List.length_cons]; omega)] at h
    cases h
theorem badT {s : Shop} {d : PyData} (h : isTupD d = false) : Bad s d := bad_of (fun ds r e => by subst e; cases h) fun g => by cases d <;> first | (cases h; done) | cases g
/-- another deed behind the right ones -/
theorem badO {s : Shop} {us : List (Str × Int)} {o : PyData} {r : List PyData} (hu : us.length ≤ 90) (ho : deedD s o = false) (hw : dW o) (hr : r.length = 6) : Bad s (.tuple (.tuple (encD us ++ [o]) :: r)) :=
  bad_of (fun ds q e => by
    have e := PyData.tuple.inj e
    have e := PyData.tuple.inj (List.cons.inj e).1
    subst e
    refine ⟨fun x hx => ?_, by rw [List.length_append, List.length_map]; show us.length + 1 ≤ 100; omega⟩
    rcases List.mem_append.mp hx with hx | hx
    · obtain ⟨d, _, rfl⟩ := List.mem_map.mp hx
      exact dW_enc
    · rw [List.mem_singleton.mp hx]
      exact hw) fun h => by
    match r, hr with
    | [r1, r2, r3, r4, r5, r6], _ =>
      have h : ((encD us ++ [o]).all (deedD s) && _) = true := h
      rw [List.all_append, Bool.and_eq_true, Bool.and_eq_true] at h
      have := h.1.2
      rw [List.all_cons, ho] at this
      cases this
theorem dsum_rep : ∀ (k : Nat), dsum (List.replicate k (("single" : Str), (1 : Int))) = k
  | 0 => rfl
  | k + 1 => by
    rw [List.replicate_succ]
    show 1 + dsum (List.replicate k _) = _
    rw [dsum_rep k]
    omega
section
variable {s : Shop} {x : Bil}
theorem bad_full (so : s.Ok) {r : List PyData} (hr : r.length = 6) : Bad s (.tuple (.tuple (encD (List.replicate (s.n + 1).toNat (("single" : Str), (1 : Int)))) :: r)) := by
  have n1 := so.n1
  have n4 := so.n4
  match r, hr with
  | [r1, r2, r3, r4, r5, r6], _ =>
    refine bad7 (by rw [List.length_replicate]; omega) fun y e _ _ _ _ _ _ f => ?_
    have := f.n
    rw [e, dsum_rep] at this
    omega
theorem bad_e (f : Fit s x) (hl : x.ds.length ≤ 100) {e : Int} {r : List PyData} (hr : r.length = 5) (h : e ≠ 0 ∧ e ≠ s.n - dsum x.ds) : Bad s (.tuple (.tuple (encD x.ds) :: .int e :: r)) := by
  match r, hr with
  | [r2, r3, r4, r5, r6], _ =>
    refine bad7 hl fun y e0 e1 _ _ _ _ _ f => ?_
    have := f.e
    rw [e0, ← PyData.int.inj e1] at this
    omega
end
end K38

set_option Elab.async false
set_option linter.all false
set_option maxRecDepth 100000
set_option maxHeartbeats 4000000
namespace K38
open PySem PySem.Spec PyProof.Rows L2 Dat LamX Clo
local macro_rules | `(tactic| trivial) => `(tactic| (first
  | (with_reducible refine s_seq ?_)
  | (with_reducible refine s_asg ?_)
  | (with_reducible refine s_ret ?_)
  | (with_reducible refine s_drop ?_)
  | (with_reducible refine s_next ?_)
  | (with_reducible refine s_retN ?_)
  | (with_reducible refine s_brk ?_)
  | (with_reducible refine s_cont ?_)
  | (with_reducible refine s_if ?_)
  | (with_reducible refine e_int ?_)
  | (with_reducible refine e_str ?_)
  | (with_reducible refine e_bl ?_)
  | (with_reducible refine e_non ?_)
  | (with_reducible refine e_ty ?_)
  | (with_reducible refine e_tupD ?_)
  | (with_reducible refine e_lstD ?_)
  | (with_reducible refine e_op ?_)
  | (with_reducible refine e_un ?_)
  | (with_reducible refine e_then ?_)
  | (with_reducible refine e_cb ?_)
  | (with_reducible refine e_call ?_)
  | (with_reducible refine e_if ?_)
  | (with_reducible refine e_chain ?_)
  | (with_reducible refine e_andV ?_)
  | (with_reducible refine e_orV ?_)
  | (with_reducible refine e_notV ?_)
  | (with_reducible refine a_cons ?_)
  | (with_reducible refine a_nil ?_)
  | (with_reducible refine t_test ?_)
  | (with_reducible refine t_B ?_)
  | (with_reducible refine t_not ?_)
  | (with_reducible refine t_and ?_)
  | (with_reducible refine t_or ?_)
  | (with_reducible refine r_I0i ?_)
  | (with_reducible refine r_I0b ?_)
  | (with_reducible refine r_neg ?_)
  | (with_reducible refine r_isN ?_)
  | (with_reducible refine r_notN ?_)
  | (with_reducible refine c_lenT ?_)
  | (with_reducible refine c_lenL ?_)
  | (with_reducible refine c_intI ?_)
  | (with_reducible refine c_intB ?_)
  | (with_reducible refine c_max2 ?_)
  | (with_reducible refine c_min2 ?_)
  | (with_reducible refine c_abs ?_)
  | (with_reducible refine r_tupL ?_)
  | (with_reducible refine r_tupT ?_)
  | (with_reducible refine c_allM ?_)
  | ((with_reducible apply e_var); (exact rfl))
  | ((with_reducible refine r_eq ?_ ?_); (exact rfl))
  | ((with_reducible refine r_ne ?_ ?_); (exact rfl))
  | (with_reducible refine c_isi kit_int ?_)
  | (with_reducible refine c_isi kit_bool ?_)
  | (with_reducible refine c_isi kit_tuple ?_)
  | (with_reducible refine c_isi kit_list ?_)
  | (with_reducible refine c_isi kit_str ?_)
  | ((with_reducible apply r_ixT); (exact rfl))
  | ((with_reducible apply dats_pack); (iterate 40 (first | exact Dats.nil | apply Dats.cons | skip)); (exact rfl))
  | (with_reducible refine s_asgG ?_) | (with_reducible refine g_name ?_) | ((with_reducible refine g_tup ?_ ?_); (exact rfl)) | (refine gs_nil ?_) | (refine gs_cons ?_) | (with_reducible refine ⟨rfl, ?_⟩)
  | (refine ⟨_, rfl, ?_⟩) | (refine ⟨_, _, rfl, ?_⟩) | (refine ⟨_, _, _, rfl, ?_⟩) | (with_reducible refine ⟨fun _ => ?_, fun _ => ?_⟩) | fail))
/-! ### a bill spoilt -/
section
variable {K : PySem.W.Frag} [Tb K] {Γ : List (Option Av)} {Ω : AH} {P : Av → AH → Prop} {tl : TA} {x : List PyData} {k k' : Int}
theorem c_boolI {i : Int} (h : P (.dat (.bool (i != 0))) Ω) : RCW K (fun xs H Q => (∃ i, xs = [.int i] ∧ Q (.bl (i != 0)) H) ∨ ∃ k, xs = [.bl k] ∧ Q (.bl k) H) [.dat (.int i)] Ω P := fun F H xs Q k hx q => by
  cases hx with | cons h1 hx =>
    cases hx
    cases h1 with | dat h1 =>
      cases h1
      exact .inl ⟨i, rfl, q _ _ _ _ h k (.dat (.bl _))⟩
/-- slip[:k] + (..), (..) + slip[k':], slip[:k] + (..) + slip[k':] -/
theorem e_pre (hi : Γ[2]? = some (some (.dat (.tuple x)))) (lx : x.length ≤ 100) (h : AW K tl Γ Ω fun as Ω1 => ∃ ds, Dats as ds ∧ Nat.ble ds.length 100 = true ∧ P (.dat (.tuple (cutD x none (some k) ++ ds))) Ω1) :
    EW K (tOp (rCatA K) (tSl (rSlA K) (tVar 2) tNoPart (tPart (tC (.int k)))) (tTup tl)) Γ Ω P :=
  e_op (e_slT (e_var hi ⟨_, rfl, o_no (o_some (e_int ⟨_, rfl, e_tupD fun F σ H Q kk q => h F σ H Q kk fun as vs Ω1 H1 ⟨ds, e, l, hp⟩ k1 v1 => q as vs Ω1 H1 ⟨ds, e, by have := Nat.le_of_ble_eq_true l; exact Nat.ble_eq_true_of_le (by omega), r_catT (by have := Nat.le_of_ble_eq_true l; have := cutD_len (xs := x) (lo := none) (hi := some k); omega) hp⟩ k1 v1⟩))⟩))
theorem e_post (hi : Γ[2]? = some (some (.dat (.tuple x)))) (lx : x.length ≤ 100) (h : AW K tl Γ Ω fun as Ω1 => ∃ ds, Dats as ds ∧ Nat.ble ds.length 100 = true ∧ P (.dat (.tuple (ds ++ cutD x (some k') none))) Ω1) :
    EW K (tOp (rCatA K) (tTup tl) (tSl (rSlA K) (tVar 2) (tPart (tC (.int k'))) tNoPart)) Γ Ω P :=
  e_op (e_tupD fun F σ H Q kk q => h F σ H Q kk fun as vs Ω1 H1 ⟨ds, e, l, hp⟩ k1 v1 => q as vs Ω1 H1 ⟨ds, e, by have := Nat.le_of_ble_eq_true l; exact Nat.ble_eq_true_of_le (by omega), e_slT (e_var hi ⟨_, rfl, o_some (e_int ⟨_, rfl, o_no (r_catT (by have := Nat.le_of_ble_eq_true l; have := cutD_len (xs := x) (lo := some k') (hi := none); omega) hp)⟩)⟩)⟩ k1 v1)
theorem e_mid (hi : Γ[2]? = some (some (.dat (.tuple x)))) (lx : x.length ≤ 100) (h : AW K tl Γ Ω fun as Ω1 => ∃ ds, Dats as ds ∧ Nat.ble ds.length 100 = true ∧ P (.dat (.tuple (cutD x none (some k) ++ ds ++ cutD x (some k') none))) Ω1) :
    EW K (tOp (rCatA K) (tOp (rCatA K) (tSl (rSlA K) (tVar 2) tNoPart (tPart (tC (.int k)))) (tTup tl)) (tSl (rSlA K) (tVar 2) (tPart (tC (.int k'))) tNoPart)) Γ Ω P :=
  e_op (e_pre hi lx fun F σ H Q kk q => h F σ H Q kk fun as vs Ω1 H1 ⟨ds, e, l, hp⟩ k1 v1 => q as vs Ω1 H1 ⟨ds, e, l, e_slT (e_var hi ⟨_, rfl, o_some (e_int ⟨_, rfl, o_no (r_catT (by have := Nat.le_of_ble_eq_true l; have := cutD_len (xs := x) (lo := some k') (hi := none); have := cutD_len (xs := x) (lo := none) (hi := some k); rw [List.length_append]; omega) hp)⟩)⟩)⟩ k1 v1)
end
theorem atI_head {d : PyData} {r : List PyData} : atI (d :: r) 0 = some d := by simp [atI, ixN]
theorem cut_tail {d : Str × Int} {r : List (Str × Int)} : Dat.cutD (encD (d :: r)) (some 1) none = encD r := by
  simp only [Dat.cutD, HT.sIx, List.length_map, List.length_cons, List.map_cons]
  rw [if_neg (by decide), show min (Int.toNat 1) (r.length + 1) = 1 by simp, List.drop_succ_cons, List.drop_zero]
  exact List.take_of_length_le (by rw [List.length_map]; omega)
def BadL (s : Shop) (N : Nat) (L : List PyData) : Prop := L.length ≤ N ∧ 1 ≤ L.length ∧ ∀ d ∈ L, Bad s d
theorem BadL.app {s : Shop} {N : Nat} {L es : List PyData} (h : BadL s N L) (m : Nat) (l : es.length ≤ m) (g : ∀ d ∈ es, Bad s d) : BadL s (N + m) (L ++ es) :=
  ⟨by rw [List.length_append]; have := h.1; omega, by rw [List.length_append]; have := h.2.1; omega, fun d hd => (List.mem_append.mp hd).elim (h.2.2 d) (g d)⟩
abbrev notIn (ns : List Int) (k : Int) : Bool := !((ns.map PyData.int).any fun e => PyData.eqv e (.int k))
theorem notIn_iff {ns : List Int} {k : Int} : notIn ns k = true ↔ k ∉ ns := by
  show (!(_ : Bool)) = true ↔ _
  rw [any_ints]
  simp
theorem kind_free {s : Shop} (so : s.Ok) : ∃ kd tl, ([1, 2, 3, 4] : List Int).filter (notIn s.kinds) = kd :: tl ∧ kd ∉ s.kinds := by
  cases e : ([1, 2, 3, 4] : List Int).filter (notIn s.kinds) with
  | nil =>
    have hn : ∀ k ∈ ([1, 2, 3, 4] : List Int), k ∈ s.kinds := fun k hk => by
      have := List.filter_eq_nil_iff.mp e k hk
      rw [notIn_iff] at this
      exact Classical.not_not.mp this
    have h1 := hn 1 (by decide)
    have h2 := hn 2 (by decide)
    have h3 := hn 3 (by decide)
    rcases kinds_cases so with ⟨a, e⟩ | ⟨a, b, e⟩
    · rw [e] at h1 h2
      simp at h1 h2
      omega
    · rw [e] at h1 h2 h3
      simp at h1 h2 h3
      omega
  | cons kd tl =>
    refine ⟨kd, tl, rfl, ?_⟩
    have : kd ∈ ([1, 2, 3, 4] : List Int).filter (notIn s.kinds) := by rw [e]; exact List.mem_cons_self
    exact notIn_iff.mp (List.mem_filter.mp this).2
def BadD (s : Shop) (o : PyData) : Prop := deedD s o = false ∧ dW o
theorem badD_str {s : Shop} {w : Str} {n : Int} (h : ¬ (w = "group" ∧ n ∈ s.sizes)) (g : ¬ (w = "single" ∧ n = 1)) : BadD s (.tuple [.str w, .int n]) := by
  refine ⟨Bool.eq_false_iff.mpr fun z => ?_, fun a b e => ⟨w, by cases e; rfl⟩⟩
  rcases deed_inv (d := (w, n)) z with q | q
  · exact h q
  · exact g q
theorem badD_no {s : Shop} {o : PyData} (h : deedD s o = false) (g : dW o) : BadD s o := ⟨h, g⟩
abbrev fSp (p : Addr) (s : Shop) (x : Bil) (kd : Int) (o : Option Av) (od : List PyData) (L : Option Av) : List (Option Av) :=
  [some (.ptr p), some (.dat s.enc), some (.dat x.enc), some (.dat (.tuple (encD x.ds))), some (.dat (.int x.e)), some (.dat (.int x.a)), some (.dat (itup x.op)), some (.dat (.int x.sv)), some (.dat (.int x.un)), some (.dat (.int x.me)), some (.dat (.int (x.sv + x.un))), some (.dat (.int (s.c1 * lastI s.sizes + s.c2))), some (.dat (.int kd)), o, some (.dat (.list od)), some (.dat (.tuple (encD (List.replicate (s.n + 1).toNat (("single" : Str), (1 : Int)))))), L]
section
variable {P : Program} {w : World} {K : PySem.W.Frag} [Tb K] {mg : Str → Option Value} {base : Heap}
abbrev spSpoilt : ASp := fun as Ω P => ∃ (Ω0 : AH) (p : Addr) (s : Shop) (x : Bil) (a b c : Int) (n : Nat), as = [.ptr p, .dat s.enc, .dat x.enc] ∧ Ω = put Ω0 p (deckL a b c) ∧ DkOk n b c ∧ n ≤ 4700 ∧ s.Ok ∧ Fit s x ∧ x.ds.length ≤ 4 ∧ ∀ d a' b' c', DkOk (n + 2) b' c' → Bad s d → P (.dat d) (put Ω0 p (deckL a' b' c'))
theorem ok_spoilt (T : Top K mg) : FnOk P w K mg base CX0 2 T.f__law_spoilt T.d__law_spoilt ["_law_source_here", "_law_shop", "_law_slip"] (spA K spSpoilt) := by
  have G__law_draw : FnOk P w K mg base CX0 1 T.f__law_draw T.d__law_draw ["_law_source_here", "_law_bound"] (spA K spDraw) := ok_draw T
  refine fnA_ok T.D__law_spoilt.F sc__law_spoilt (fun as Ω P ⟨Ω0, p, s, x, a, b, c, n, e, _⟩ => by subst e; rfl) (fun cdv A outer s H E hr => ?_)
  refine ⟨_, (pss_cons (ps_asg (pv 2) (Dat.pgT (K := K) (n := 7) rfl rfl (pgs_cons (pg_name (i := 3) sc__law_spoilt.nd rfl (.inl rfl)) (pgs_cons (pg_name (i := 4) sc__law_spoilt.nd rfl (.inl rfl)) (pgs_cons (pg_name (i := 5) sc__law_spoilt.nd rfl (.inl rfl)) (pgs_cons (pg_name (i := 6) sc__law_spoilt.nd rfl (.inl rfl)) (pgs_cons (pg_name (i := 7) sc__law_spoilt.nd rfl (.inl rfl)) (pgs_cons (pg_name (i := 8) sc__law_spoilt.nd rfl (.inl rfl)) (pgs_cons (pg_name (i := 9) sc__law_spoilt.nd rfl (.inl rfl)) pgs_nil)))))))))
    (pss_cons (ps_set (i := 10) sc__law_spoilt.nd rfl (.inl rfl) (pe_op op_add (pv 7) (pv 8)))
    (pss_cons (ps_set (i := 11) sc__law_spoilt.nd rfl (.inl rfl) (pe_op op_add (pe_op op_mul (pe_ix (Dat.ixT (K := K) rfl) (pe_ix (Dat.ixT (K := K) rfl) (pv 1) pe_int (fun _ _ => rfl)) pe_int (fun _ _ => rfl)) (pe_ix (Dat.ixT (K := K) rfl) (pe_ix (Dat.ixT (K := K) rfl) (pv 1) pe_int (fun _ _ => rfl)) (pe_un un_neg pe_int) (fun _ _ => rfl))) (pe_ix (Dat.ixT (K := K) rfl) (pe_ix (Dat.ixT (K := K) rfl) (pv 1) pe_int (fun _ _ => rfl)) pe_int (fun _ _ => rfl))))
    (pss_cons (ps_set (i := 12) sc__law_spoilt.nd rfl (.inl rfl) (pe_ix (Dat.ixL (K := K) rfl) (pe_lc (own := [("_law_one", 13)]) (g := (gName 13)) (tt := _) rfl sc__law_spoilt.nd (Dat.piT (K := K) rfl (pe_tup (pa_cons pe_int (pa_cons pe_int (pa_cons pe_int (pa_cons pe_int pa_nil)))))) (blkOk_by (N := N__law_spoilt) (sc := defScope s__law_spoilt) (by decide +kernel)) (fun _ _ _ _ _ => (pg_name (i := 13) sc__law_spoilt.nd rfl (Or.inl rfl))) (fun _ _ _ _ _ => (pts_one (pt_cmpR (Dat.niQ (K := K) rfl) (pv 13) (pe_ix (Dat.ixT (K := K) rfl) (pv 1) pe_int (fun _ _ => rfl)) rfl))) (fun _ _ _ _ _ => (pv 13))) pe_int (fun _ _ => rfl)))
    (pss_cons (ps_set (i := 14) sc__law_spoilt.nd rfl (.inl rfl) (pe_slice (Dat.slL (K := K) rfl) (pe_lc (own := [("_law_one", 13)]) (g := (gName 13)) (tt := _) rfl sc__law_spoilt.nd (Dat.piT (K := K) rfl (pe_tup (pa_cons pe_int (pa_cons pe_int (pa_cons pe_int (pa_cons pe_int (pa_cons pe_int pa_nil))))))) (blkOk_by (N := N__law_spoilt) (sc := defScope s__law_spoilt) (by decide +kernel)) (fun _ _ _ _ _ => (pg_name (i := 13) sc__law_spoilt.nd rfl (Or.inl rfl))) (fun _ _ _ _ _ => (pts_one (pt_cmpR (Dat.niQ (K := K) rfl) (pv 13) (pe_ix (Dat.ixT (K := K) rfl) (pv 1) pe_int (fun _ _ => rfl)) rfl))) (fun _ _ _ _ _ => (pe_tup (pa_cons pe_str (pa_cons (pv 13) pa_nil))))) po_none (po_some pe_int)))
    (pss_cons (ps_set (i := 14) sc__law_spoilt.nd rfl (.inl rfl) (pe_op op_cat (pv 14) (pe_lst (pa_cons (pe_tup (pa_cons pe_str (pa_cons pe_int pa_nil))) (pa_cons (pe_tup (pa_cons pe_str (pa_cons pe_int pa_nil))) (pa_cons (pe_tup (pa_cons pe_str (pa_cons pe_int pa_nil))) (pa_cons (pe_tup (pa_cons pe_str (pa_cons pe_bl pa_nil))) (pa_cons (pe_tup (pa_cons pe_str pa_nil)) (pa_cons (pe_lst (pa_cons pe_str (pa_cons pe_int pa_nil))) pa_nil)))))))))
    (pss_cons (ps_set (i := 14) sc__law_spoilt.nd rfl (.inl rfl) (pe_op op_cat (pv 14) (pe_lst (pa_cons (pe_tup (pa_cons pe_str (pa_cons pe_bl pa_nil))) (pa_cons pe_non (pa_cons (pe_tup (pa_cons pe_str (pa_cons pe_int pa_nil))) pa_nil))))))
    (pss_cons (ps_set (i := 15) sc__law_spoilt.nd rfl (.inl rfl) (pe_op (Dat.repTQ (K := K) rfl) (pe_tup (pa_cons (pe_tup (pa_cons pe_str (pa_cons pe_int pa_nil))) pa_nil)) (pe_op op_add (pe_ix (Dat.ixT (K := K) rfl) (pv 1) pe_int (fun _ _ => rfl)) pe_int)))
    (pss_cons (ps_set (i := 16) sc__law_spoilt.nd rfl (.inl rfl) (pe_lst (pa_cons (pe_tup (pa_cons (pv 15) (pa_cons pe_int (pa_cons pe_int (pa_cons (pe_tup pa_nil) (pa_cons (pe_op op_add (pe_ix (Dat.ixT (K := K) rfl) (pv 1) pe_int (fun _ _ => rfl)) pe_int) (pa_cons pe_int (pa_cons pe_int pa_nil)))))))) (pa_cons (pe_op (Dat.catT (K := K) rfl) (pe_tup (pa_cons (pe_op (Dat.catT (K := K) rfl) (pv 3) (pe_tup (pa_cons (pe_ix (Dat.ixL (K := K) rfl) (pv 14) (pe_call G__law_draw (hr.mono (by omega)) rfl T.D__law_draw.g T.D__law_draw.F.kp T.D__law_draw.b .nil pass0 (pa_cons (pv 0) (pa_cons (pe_callB (Dat.lenQ (K := K) rfl) rfl T.b_len bt_len (pa_cons (pv 14) pa_nil)) pa_nil))) (fun _ _ => rfl)) pa_nil))) pa_nil)) (pe_slice (Dat.slT (K := K) rfl) (pv 2) (po_some pe_int) po_none)) pa_nil))))
    (pss_cons (ps_set (i := 16) sc__law_spoilt.nd rfl (.inl rfl) (pe_op op_cat (pv 16) (pe_lst (pa_cons (pe_op (Dat.catT (K := K) rfl) (pe_op (Dat.catT (K := K) rfl) (pe_slice (Dat.slT (K := K) rfl) (pv 2) po_none (po_some pe_int)) (pe_tup (pa_cons (pe_op op_add (pe_op op_sub (pe_ix (Dat.ixT (K := K) rfl) (pv 1) pe_int (fun _ _ => rfl)) (pv 10)) pe_int) pa_nil))) (pe_slice (Dat.slT (K := K) rfl) (pv 2) (po_some pe_int) po_none)) (pa_cons (pe_op (Dat.catT (K := K) rfl) (pe_op (Dat.catT (K := K) rfl) (pe_slice (Dat.slT (K := K) rfl) (pv 2) po_none (po_some pe_int)) (pe_tup (pa_cons (pe_op op_sub pe_int pe_int) pa_nil))) (pe_slice (Dat.slT (K := K) rfl) (pv 2) (po_some pe_int) po_none)) pa_nil)))))
    (pss_cons (ps_set (i := 16) sc__law_spoilt.nd rfl (.inl rfl) (pe_op op_cat (pv 16) (pe_lst (pa_cons (pe_op (Dat.catT (K := K) rfl) (pe_op (Dat.catT (K := K) rfl) (pe_slice (Dat.slT (K := K) rfl) (pv 2) po_none (po_some pe_int)) (pe_tup (pa_cons (pe_op op_add (pv 11) pe_int) pa_nil))) (pe_slice (Dat.slT (K := K) rfl) (pv 2) (po_some pe_int) po_none)) (pa_cons (pe_op (Dat.catT (K := K) rfl) (pe_op (Dat.catT (K := K) rfl) (pe_slice (Dat.slT (K := K) rfl) (pv 2) po_none (po_some pe_int)) (pe_tup (pa_cons (pe_op op_sub pe_int pe_int) pa_nil))) (pe_slice (Dat.slT (K := K) rfl) (pv 2) (po_some pe_int) po_none)) (pa_cons (pe_op (Dat.catT (K := K) rfl) (pe_op (Dat.catT (K := K) rfl) (pe_slice (Dat.slT (K := K) rfl) (pv 2) po_none (po_some pe_int)) (pe_tup (pa_cons pe_bl pa_nil))) (pe_slice (Dat.slT (K := K) rfl) (pv 2) (po_some pe_int) po_none)) pa_nil))))))
    (pss_cons (ps_set (i := 16) sc__law_spoilt.nd rfl (.inl rfl) (pe_op op_cat (pv 16) (pe_lst (pa_cons (pe_op (Dat.catT (K := K) rfl) (pe_op (Dat.catT (K := K) rfl) (pe_slice (Dat.slT (K := K) rfl) (pv 2) po_none (po_some pe_int)) (pe_tup (pa_cons (pe_tup (pa_cons (pv 12) pa_nil)) pa_nil))) (pe_slice (Dat.slT (K := K) rfl) (pv 2) (po_some pe_int) po_none)) (pa_cons (pe_op (Dat.catT (K := K) rfl) (pe_op (Dat.catT (K := K) rfl) (pe_slice (Dat.slT (K := K) rfl) (pv 2) po_none (po_some pe_int)) (pe_tup (pa_cons (pe_op (Dat.repTQ (K := K) rfl) (pe_slice (Dat.slT (K := K) rfl) (pe_ix (Dat.ixT (K := K) rfl) (pv 1) pe_int (fun _ _ => rfl)) po_none (po_some pe_int)) pe_int) pa_nil))) (pe_slice (Dat.slT (K := K) rfl) (pv 2) (po_some pe_int) po_none)) pa_nil)))))
    (pss_cons (ps_set (i := 16) sc__law_spoilt.nd rfl (.inl rfl) (pe_op op_cat (pv 16) (pe_lst (pa_cons (pe_op (Dat.catT (K := K) rfl) (pe_op (Dat.catT (K := K) rfl) (pe_slice (Dat.slT (K := K) rfl) (pv 2) po_none (po_some pe_int)) (pe_tup (pa_cons (pe_lst pa_nil) pa_nil))) (pe_slice (Dat.slT (K := K) rfl) (pv 2) (po_some pe_int) po_none)) (pa_cons (pe_op (Dat.catT (K := K) rfl) (pe_op (Dat.catT (K := K) rfl) (pe_slice (Dat.slT (K := K) rfl) (pv 2) po_none (po_some pe_int)) (pe_tup (pa_cons pe_bl pa_nil))) (pe_slice (Dat.slT (K := K) rfl) (pv 2) (po_some pe_int) po_none)) (pa_cons (pe_op (Dat.catT (K := K) rfl) (pe_op (Dat.catT (K := K) rfl) (pe_slice (Dat.slT (K := K) rfl) (pv 2) po_none (po_some pe_int)) (pe_tup (pa_cons (pe_tup (pa_cons pe_bl pa_nil)) pa_nil))) (pe_slice (Dat.slT (K := K) rfl) (pv 2) (po_some pe_int) po_none)) pa_nil))))))
    (pss_cons (ps_set (i := 16) sc__law_spoilt.nd rfl (.inl rfl) (pe_op op_cat (pv 16) (pe_lst (pa_cons (pe_op (Dat.catT (K := K) rfl) (pe_op (Dat.catT (K := K) rfl) (pe_slice (Dat.slT (K := K) rfl) (pv 2) po_none (po_some pe_int)) (pe_tup (pa_cons (pe_callTy L2.call_bool1 rfl T.b_bool bt_bool (pa_cons (pv 7) pa_nil)) pa_nil))) (pe_slice (Dat.slT (K := K) rfl) (pv 2) (po_some pe_int) po_none)) (pa_cons (pe_op (Dat.catT (K := K) rfl) (pe_op (Dat.catT (K := K) rfl) (pe_slice (Dat.slT (K := K) rfl) (pv 2) po_none (po_some pe_int)) (pe_tup (pa_cons pe_bl pa_nil))) (pe_slice (Dat.slT (K := K) rfl) (pv 2) (po_some pe_int) po_none)) pa_nil)))))
    (pss_cons (ps_set (i := 16) sc__law_spoilt.nd rfl (.inl rfl) (pe_op op_cat (pv 16) (pe_lst (pa_cons (pe_op (Dat.catT (K := K) rfl) (pe_op (Dat.catT (K := K) rfl) (pe_slice (Dat.slT (K := K) rfl) (pv 2) po_none (po_some pe_int)) (pe_tup (pa_cons (pe_op op_add (pv 7) pe_int) pa_nil))) (pe_slice (Dat.slT (K := K) rfl) (pv 2) (po_some pe_int) po_none)) (pa_cons (pe_op (Dat.catT (K := K) rfl) (pe_slice (Dat.slT (K := K) rfl) (pv 2) po_none (po_some pe_int)) (pe_tup (pa_cons (pe_op op_add (pv 7) pe_int) (pa_cons (pe_op op_sub (pe_op op_sub (pv 8) pe_int) (pv 10)) (pa_cons pe_int pa_nil))))) pa_nil)))))
    (pss_cons (ps_set (i := 16) sc__law_spoilt.nd rfl (.inl rfl) (pe_op op_cat (pv 16) (pe_lst (pa_cons (pe_op (Dat.catT (K := K) rfl) (pe_slice (Dat.slT (K := K) rfl) (pv 2) po_none (po_some pe_int)) (pe_tup (pa_cons (pe_op op_add (pe_op op_mul pe_int (pe_ix (Dat.ixT (K := K) rfl) (pe_ix (Dat.ixT (K := K) rfl) (pv 1) pe_int (fun _ _ => rfl)) (pe_un un_neg pe_int) (fun _ _ => rfl))) pe_int) pa_nil))) (pa_cons (pe_op (Dat.catT (K := K) rfl) (pe_slice (Dat.slT (K := K) rfl) (pv 2) po_none (po_some pe_int)) (pe_tup (pa_cons (pe_op op_sub pe_int pe_int) pa_nil))) (pa_cons (pe_op (Dat.catT (K := K) rfl) (pe_slice (Dat.slT (K := K) rfl) (pv 2) po_none (po_some pe_int)) (pe_tup (pa_cons pe_bl pa_nil))) (pa_cons (pe_slice (Dat.slT (K := K) rfl) (pv 2) po_none (po_some pe_int)) (pa_cons (pe_op (Dat.catT (K := K) rfl) (pv 2) (pe_tup (pa_cons pe_int pa_nil))) pa_nil))))))))
    (pss_cons (ps_set (i := 16) sc__law_spoilt.nd rfl (.inl rfl) (pe_op op_cat (pv 16) (pe_lst (pa_cons (pe_callTy (Dat.listQ (K := K) rfl) rfl T.b_list bt_list (pa_cons (pv 2) pa_nil)) (pa_cons pe_non (pa_cons (pe_tup pa_nil) (pa_cons (pe_op (Dat.catT (K := K) rfl) (pe_tup (pa_cons (pe_callTy (Dat.listQ (K := K) rfl) rfl T.b_list bt_list (pa_cons (pv 3) pa_nil)) pa_nil)) (pe_slice (Dat.slT (K := K) rfl) (pv 2) (po_some pe_int) po_none)) (pa_cons (pe_op (Dat.catT (K := K) rfl) (pe_op (Dat.catT (K := K) rfl) (pe_slice (Dat.slT (K := K) rfl) (pv 2) po_none (po_some pe_int)) (pe_tup (pa_cons pe_str pa_nil))) (pe_slice (Dat.slT (K := K) rfl) (pv 2) (po_some pe_int) po_none)) (pa_cons pe_str (pa_cons pe_int pa_nil))))))))))
    (pss_cons (ps_if (pt_cmpR op_gt (pv 10) pe_int (nomark _))
      (pss_one (ps_set (i := 16) sc__law_spoilt.nd rfl (.inl rfl) (pe_op op_cat (pv 16) (pe_lst (pa_cons (pe_op (Dat.catT (K := K) rfl) (pe_slice (Dat.slT (K := K) rfl) (pv 2) po_none (po_some pe_int)) (pe_tup (pa_cons (pe_op op_sub (pv 10) pe_int) (pa_cons pe_int (pa_cons pe_int pa_nil))))) (pa_cons (pe_tup (pa_cons (pv 3) (pa_cons (pv 4) (pa_cons (pv 5) (pa_cons (pv 6) (pa_cons pe_int (pa_cons (pv 10) (pa_cons pe_int pa_nil)))))))) (pa_cons (pe_op (Dat.catT (K := K) rfl) (pe_tup (pa_cons (pe_slice (Dat.slT (K := K) rfl) (pv 3) (po_some pe_int) po_none) pa_nil)) (pe_slice (Dat.slT (K := K) rfl) (pv 2) (po_some pe_int) po_none)) pa_nil)))))))
      pss_nil)
    (pss_cons (ps_if (pt_cmpR op_gt (pe_op op_sub (pe_ix (Dat.ixT (K := K) rfl) (pv 1) pe_int (fun _ _ => rfl)) (pv 10)) pe_int (nomark _))
      (pss_one (ps_expr (Dat.appQ (K := K) rfl (pv 16) (pa_cons (pe_op (Dat.catT (K := K) rfl) (pe_op (Dat.catT (K := K) rfl) (pe_slice (Dat.slT (K := K) rfl) (pv 2) po_none (po_some pe_int)) (pe_tup (pa_cons (pe_op op_sub (pe_op op_sub (pe_ix (Dat.ixT (K := K) rfl) (pv 1) pe_int (fun _ _ => rfl)) (pv 10)) pe_int) pa_nil))) (pe_slice (Dat.slT (K := K) rfl) (pv 2) (po_some pe_int) po_none)) pa_nil))))
      pss_nil)
    (pss_one (ps_ret (pe_ix (Dat.ixL (K := K) rfl) (pv 16) (pe_call G__law_draw (hr.mono (by omega)) rfl T.D__law_draw.g T.D__law_draw.F.kp T.D__law_draw.b .nil pass0 (pa_cons (pv 0) (pa_cons (pe_callB (Dat.lenQ (K := K) rfl) rfl T.b_len bt_len (pa_cons (pv 16) pa_nil)) pa_nil))) (fun _ _ => rfl))))))))))))))))))))))), ?_⟩
  rintro as Ω P ⟨Ω0, p, s, x, a, b, c, n, rfl, rfl, dk, hn, so, ft, hl, h⟩
  have n1 := so.n1
  have n4 := so.n4
  have c10 := so.c10
  have c11 := so.c11
  have z2 := so.z2
  have k1 := so.k1
  have k2 := so.k2
  refine s_seq (s_asgG (e_var rfl (g_tup rfl ?_)))
  repeat (refine gs_cons (g_name ⟨rfl, ?_⟩))
  refine gs_nil ?_
  refine sw_g (Γ' := [some (.ptr p), some (.dat s.enc), some (.dat x.enc), some (.dat (.tuple (encD x.ds))), some (.dat (.int x.e)), some (.dat (.int x.a)), some (.dat (itup x.op)), some (.dat (.int x.sv)), some (.dat (.int x.un)), some (.dat (.int x.me)), none, none, none, none, none, none, none]) rfl ?_
  refine s_seq (s_asg (e_op (e_var rfl (e_var rfl (r_I0i ?_)))))
  refine s_seq (s_asg (e_op (e_op (e_op (e_op (e_var rfl (e_int (r_ixT rfl (e_int (r_ixT rfl (e_op (e_op (e_var rfl (e_int (r_ixT rfl (e_un (e_int (r_neg (r_ixT (at_sizes so) (r_Ii (by exact .inl ⟨by omega, by omega⟩) (e_op (e_op (e_var rfl (e_int (r_ixT rfl (e_int (r_ixT rfl (r_I0i ?_))))))))))))))))))))))))))))
  refine sw_g (Γ' := [some (.ptr p), some (.dat s.enc), some (.dat x.enc), some (.dat (.tuple (encD x.ds))), some (.dat (.int x.e)), some (.dat (.int x.a)), some (.dat (itup x.op)), some (.dat (.int x.sv)), some (.dat (.int x.un)), some (.dat (.int x.me)), some (.dat (.int (x.sv + x.un))), some (.dat (.int (s.c1 * lastI s.sizes + s.c2))), none, none, none, none, none]) rfl ?_
  obtain ⟨kd, ktl, ekd, hkd⟩ := kind_free so
  refine s_seq (s_asg (e_op (e_lcF [1, 2, 3, 4] (fun k => .dat (.int k)) (notIn s.kinds) (fun k => .int k) (gn_name (by decide)) (by decide) ?_)))
  refine i_tup (e_tupD (a_cons (e_int (a_cons (e_int (a_cons (e_int (a_cons (e_int (a_nil ⟨_, .cons (.cons (.cons (.cons .nil))), rfl, ⟨_, rfl, rfl, fun k Ω' hk _ => g_name ⟨rfl, t_test (e_op (e_var rfl (e_op (e_var rfl (e_int (r_ixT rfl (r_inT rfl flat_itup ⟨_, rfl, rfl, rfl, fun _ => e_var rfl ⟨rfl, rfl⟩⟩)))))))⟩, ?_⟩⟩))))))))))
  rw [ekd]
  refine e_int (r_ixL (atI_head (d := .int kd)) ?_)
  refine sw_g (Γ' := [some (.ptr p), some (.dat s.enc), some (.dat x.enc), some (.dat (.tuple (encD x.ds))), some (.dat (.int x.e)), some (.dat (.int x.a)), some (.dat (itup x.op)), some (.dat (.int x.sv)), some (.dat (.int x.un)), some (.dat (.int x.me)), some (.dat (.int (x.sv + x.un))), some (.dat (.int (s.c1 * lastI s.sizes + s.c2))), some (.dat (.int kd)), none, none, none, none]) rfl ?_
  refine s_seq (s_asg (e_slL (e_lcF [1, 2, 3, 4, 5] (fun k => .dat (.int k)) (notIn s.sizes) (fun k => .tuple [.str "group", .int k]) (gn_name (by decide)) (by decide) ?_)))
  refine i_tup (e_tupD (a_cons (e_int (a_cons (e_int (a_cons (e_int (a_cons (e_int (a_cons (e_int (a_nil ⟨_, .cons (.cons (.cons (.cons (.cons .nil)))), rfl, ⟨_, rfl, rfl, fun k Ω' hk _ => g_name ⟨rfl, t_test (e_op (e_var rfl (e_op (e_var rfl (e_int (r_ixT rfl (r_inT rfl flat_itup ⟨_, rfl, rfl, rfl, fun _ => e_tupD (a_cons (e_str (a_cons (e_var rfl (a_nil ⟨_, .cons (.cons .nil), rfl, rfl, rfl⟩)))))⟩)))))))⟩, ?_⟩⟩))))))))))))
  refine ⟨_, rfl, o_no (o_some (e_int ⟨_, rfl, ?_⟩))⟩
  obtain ⟨o1, ho1⟩ : ∃ o1, o1 = cutD ((([1, 2, 3, 4, 5] : List Int).filter (notIn s.sizes)).map fun k => PyData.tuple [.str "group", .int k]) none (some 1) := ⟨_, rfl⟩
  have lo1 : o1.length ≤ 5 := by
    rw [ho1]
    refine Nat.le_trans cutD_len ?_
    rw [List.length_map]
    exact List.length_filter_le _ _
  have bo1 : ∀ o ∈ o1, BadD s o := fun o m => by
    rw [ho1] at m
    obtain ⟨k, hk, rfl⟩ := List.mem_map.mp (cutD_mem m)
    exact badD_str (fun z => notIn_iff.mp (List.mem_filter.mp hk).2 z.2) fun z => absurd z.1 (by decide)
  rw [← ho1]
  clear ho1
  refine sw_g (Γ' := [some (.ptr p), some (.dat s.enc), some (.dat x.enc), some (.dat (.tuple (encD x.ds))), some (.dat (.int x.e)), some (.dat (.int x.a)), some (.dat (itup x.op)), some (.dat (.int x.sv)), some (.dat (.int x.un)), some (.dat (.int x.me)), some (.dat (.int (x.sv + x.un))), some (.dat (.int (s.c1 * lastI s.sizes + s.c2))), some (.dat (.int kd)), none, some (.dat (.list o1)), none, none]) rfl ?_
  -- the other deeds
  refine s_seq (s_asg (e_op (e_var rfl (e_lstD (a_cons (e_tupD (a_cons (e_str (a_cons (e_int (a_nil ⟨_, .cons (.cons .nil), rfl, ?_⟩)))))))))))
  refine a_cons (e_tupD (a_cons (e_str (a_cons (e_int (a_nil ⟨_, .cons (.cons .nil), rfl, a_cons (e_tupD (a_cons (e_str (a_cons (e_int (a_nil ⟨_, .cons (.cons .nil), rfl, a_cons (e_tupD (a_cons (e_str (a_cons (e_bl (a_nil ⟨_, .cons (.cons .nil), rfl, a_cons (e_tupD (a_cons (e_str (a_nil ⟨_, .cons .nil, rfl, a_cons (e_lstD (a_cons (e_str (a_cons (e_int (a_nil ⟨_, .cons (.cons .nil), rfl, a_nil ⟨_, .cons (.cons (.cons (.cons (.cons (.cons .nil))))), rfl, r_catL (by show o1.length + 6 ≤ 100000; omega) ?_⟩⟩))))))⟩))))⟩))))))⟩))))))⟩))))))
  refine s_seq (s_asg (e_op (e_var rfl (e_lstD (a_cons (e_tupD (a_cons (e_str (a_cons (e_bl (a_nil ⟨_, .cons (.cons .nil), rfl, a_cons (e_non (a_cons (e_tupD (a_cons (e_str (a_cons (e_int (a_nil ⟨_, .cons (.cons .nil), rfl, a_nil ⟨_, .cons (.cons (.cons .nil)), rfl, r_catL (by rw [List.length_append]; show o1.length + 6 + 3 ≤ 100000; omega) ?_⟩⟩))))))))⟩)))))))))))
  obtain ⟨o2, ho2⟩ : ∃ o2, o2 = o1 ++ [PyData.tuple [.str "single", .int 2], .tuple [.str "Group", .int 1], .tuple [.str "go", .int 1], .tuple [.str "single", .bool true], .tuple [.str "single"], .list [.str "single", .int 1]] ++ [PyData.tuple [.str "group", .bool true], .none, .tuple [.str "group", .int 0]] := ⟨_, rfl⟩
  have lo2 : 1 ≤ o2.length ∧ o2.length ≤ 20 := by
    rw [ho2, List.length_append, List.length_append]
    show 1 ≤ o1.length + 6 + 3 ∧ o1.length + 6 + 3 ≤ 20
    omega
  have bo2 : ∀ o ∈ o2, BadD s o := fun o m => by
    rw [ho2] at m
    have zb := so.zb
    simp only [List.mem_append, List.mem_cons, List.not_mem_nil, or_false] at m
    rcases m with (m | rfl | rfl | rfl | rfl | rfl | rfl) | rfl | rfl | rfl
    · exact bo1 o m
    · exact badD_str (fun z => absurd z.1 (by decide)) fun z => absurd z.2 (by decide)
    · exact badD_str (fun z => absurd z.1 (by decide)) fun z => absurd z.1 (by decide)
    · exact badD_str (fun z => absurd z.1 (by decide)) fun z => absurd z.1 (by decide)
    · exact ⟨rfl, fun a b e => ⟨"single", by cases e; rfl⟩⟩
    · exact ⟨rfl, fun a b e => by cases e⟩
    · exact ⟨rfl, fun a b e => by cases e⟩
    · exact ⟨rfl, fun a b e => ⟨"group", by cases e; rfl⟩⟩
    · exact ⟨rfl, fun a b e => by cases e⟩
    · exact badD_str (fun z => by have := (zb 0 z.2).1; omega) fun z => absurd z.1 (by decide)
  refine sw_g (Γ' := [some (.ptr p), some (.dat s.enc), some (.dat x.enc), some (.dat (.tuple (encD x.ds))), some (.dat (.int x.e)), some (.dat (.int x.a)), some (.dat (itup x.op)), some (.dat (.int x.sv)), some (.dat (.int x.un)), some (.dat (.int x.me)), some (.dat (.int (x.sv + x.un))), some (.dat (.int (s.c1 * lastI s.sizes + s.c2))), some (.dat (.int kd)), none, some (.dat (.list o2)), none, none]) (by rw [ho2]; rfl) ?_
  clear ho2
  refine s_seqM (fun Γ' Ω' => ∃ o, Γ' = fSp p s x kd o o2 none ∧ Ω' = put Ω0 p (deckL a b c)) ?_ ?_
  · refine s_asg (e_op (e_tupD (a_cons (e_tupD (a_cons (e_str (a_cons (e_int (a_nil ⟨_, .cons (.cons .nil), rfl, a_nil ⟨_, .cons .nil, rfl, e_op (e_op (e_var rfl (e_int (r_ixT rfl (e_int (r_I0i (r_repT (by simp) (by omega) (by omega) (by simp) ?_)))))))⟩⟩)))))))))
    have er : (List.replicate (s.n + 1).toNat [PyData.tuple [.str "single", .int 1]]).flatten = encD (List.replicate (s.n + 1).toNat (("single" : Str), (1 : Int))) := by
      rw [encD, List.map_replicate, List.flatten_replicate_singleton]
    rw [er]
    exact ⟨_, rfl, rfl⟩
  rintro Γ' Ω' ⟨o, rfl, rfl⟩
  have kne : cutD (s.kinds.map PyData.int) none (some 1) ≠ [] := by
    rcases kinds_cases so with ⟨a, e⟩ | ⟨a, b, e⟩ <;> rw [e] <;> exact fun z => nomatch z
  have kle : (cutD (s.kinds.map PyData.int) none (some 1)).length ≤ 1000 := Nat.le_trans cutD_len (by rw [List.length_map]; omega)
  have kl3 : (List.replicate (3 : Int).toNat (cutD (s.kinds.map PyData.int) none (some 1))).flatten.length = 3 := by
    rcases kinds_cases so with ⟨a, e⟩ | ⟨a, b, e⟩ <;> rw [e] <;> rfl
  have hl' : x.ds.length ≤ 100 := by omega
  have lk := so.kb _ (kinds_last so).2
  have su := ft.su
  have fn := ft.n
  have s0 := ft.s0
  have u0 := ft.u0
  refine s_seqM (fun Γ' Ω' => ∃ o L a b c, BadL s 2 L ∧ DkOk (n + 1) b c ∧ Γ' = fSp p s x kd o o2 (some (.dat (.list L))) ∧ Ω' = put Ω0 p (deckL a b c)) ?_ ?_
  · refine s_asg (e_lstD (a_cons (e_tupD (a_cons (e_var rfl (a_cons (e_int (a_cons (e_int (a_cons (e_tupD (a_nil ⟨_, .nil, rfl, a_cons (e_op (e_op (e_var rfl (e_int (r_ixT rfl (e_int (r_I0i (a_cons (e_int (a_cons (e_int (a_nil ⟨_, .cons (.cons (.cons (.cons (.cons (.cons (.cons .nil)))))), rfl, ?_⟩))))))))))))⟩))))))))))))
    refine a_cons (e_op (e_tupD (a_cons (e_op (e_var rfl (e_tupD (a_cons (e_op (e_var rfl (e_draw rfl (e_cb (a_cons (e_var rfl (a_nil (c_lenL ⟨_, a, b, c, _, rfl, rfl, dk, by omega, by omega, by omega, fun v a b c dk v0 v1 => r_ixL_any v0 v1 fun od hod => a_nil ⟨_, .cons .nil, rfl, r_catT (by rw [List.length_map]; show x.ds.length + 1 ≤ 100000; omega) (a_nil ⟨_, .cons .nil, rfl, e_slT (e_var rfl ⟨_, rfl, o_some (e_int ⟨_, rfl, o_no (r_catT (by show 1 + 6 ≤ 100000; decide) (a_nil ⟨_, .cons (.cons .nil), rfl, ?_⟩))⟩)⟩)⟩)⟩⟩)))))))))))))))
    refine ⟨_, _, a, b, c, ⟨?_, ?_, fun d hd => ?_⟩, dk, rfl, rfl⟩
    · exact Nat.le_refl 2
    · exact (by decide : 1 ≤ 2)
    simp only [List.mem_cons, List.not_mem_nil, or_false] at hd
    rcases hd with rfl | rfl
    · exact bad_full so rfl
    · show Bad s (.tuple (.tuple (encD x.ds ++ [od]) :: [.int x.e, .int x.a, itup x.op, .int x.sv, .int x.un, .int x.me]))
      exact badO (by omega) (bo2 od hod).1 (bo2 od hod).2 rfl
  rintro Γ' Ω' ⟨o, L, a, b, c, hL, dk, rfl, rfl⟩
  refine s_seqM (fun Γ' Ω' => ∃ o L, BadL s 4 L ∧ Γ' = fSp p s x kd o o2 (some (.dat (.list L))) ∧ Ω' = put Ω0 p (deckL a b c)) ?_ ?_
  · refine s_asg (e_op (e_var rfl (e_lstD (a_cons (e_mid rfl (by show 7 ≤ 100; decide) (a_cons (e_op (e_op (e_op (e_var rfl (e_int (r_ixT rfl (e_var rfl (r_I0i (e_int (r_I0i (a_nil ⟨_, .cons .nil, rfl, ?_⟩)))))))))))))))))
    refine a_cons (e_mid rfl (by show 7 ≤ 100; decide) (a_cons (e_op (e_int (e_int (r_I0i (a_nil ⟨_, .cons .nil, rfl, ?_⟩)))))))
    refine a_nil ⟨_, .cons (.cons .nil), rfl, r_catL (by have := hL.1; show L.length + 2 ≤ 100000; omega) ⟨_, _, hL.app 2 (by show 2 ≤ 2; decide) (fun d hd => ?_), rfl, rfl⟩⟩
    simp only [List.mem_cons, List.not_mem_nil, or_false] at hd
    rcases hd with rfl | rfl
    · show Bad s (.tuple [.tuple (encD x.ds), .int (s.n - (x.sv + x.un) + 1), .int x.a, itup x.op, .int x.sv, .int x.un, .int x.me])
      exact bad_e ft hl' rfl ⟨by omega, by omega⟩
    · show Bad s (.tuple [.tuple (encD x.ds), .int (0 - 1), .int x.a, itup x.op, .int x.sv, .int x.un, .int x.me])
      exact bad_e ft hl' rfl ⟨by omega, by omega⟩
  rintro Γ' Ω' ⟨o, L, hL, rfl, rfl⟩
  refine s_seqM (fun Γ' Ω' => ∃ o L, BadL s 7 L ∧ Γ' = fSp p s x kd o o2 (some (.dat (.list L))) ∧ Ω' = put Ω0 p (deckL a b c)) ?_ ?_
  · refine s_asg (e_op (e_var rfl (e_lstD (a_cons (e_mid rfl (by show 7 ≤ 100; decide) (a_cons (e_op (e_var rfl (e_int (r_I0i (a_nil ⟨_, .cons .nil, rfl, ?_⟩)))))))))))
    refine a_cons (e_mid rfl (by show 7 ≤ 100; decide) (a_cons (e_op (e_int (e_int (r_I0i (a_nil ⟨_, .cons .nil, rfl, ?_⟩)))))))
    refine a_cons (e_mid rfl (by show 7 ≤ 100; decide) (a_cons (e_bl (a_nil ⟨_, .cons .nil, rfl, ?_⟩))))
    refine a_nil ⟨_, .cons (.cons (.cons .nil)), rfl, r_catL (by have := hL.1; show L.length + 3 ≤ 100000; omega) ⟨_, _, hL.app 3 (by show 3 ≤ 3; decide) (fun d hd => ?_), rfl, rfl⟩⟩
    simp only [List.mem_cons, List.not_mem_nil, or_false] at hd
    rcases hd with rfl | rfl | rfl
    · show Bad s (.tuple [.tuple (encD x.ds), .int x.e, .int (s.c1 * lastI s.sizes + s.c2 + 1), itup x.op, .int x.sv, .int x.un, .int x.me])
      exact bad7 hl' fun y e0 e1 e2 e3 e4 e5 e6 f => by have := f.a1; have := PyData.int.inj e2; omega
    · show Bad s (.tuple [.tuple (encD x.ds), .int x.e, .int (0 - 1), itup x.op, .int x.sv, .int x.un, .int x.me])
      exact bad7 hl' fun y e0 e1 e2 e3 e4 e5 e6 f => by have := f.a0; have := PyData.int.inj e2; omega
    · show Bad s (.tuple [.tuple (encD x.ds), .int x.e, .bool true, itup x.op, .int x.sv, .int x.un, .int x.me])
      exact bad7 hl' fun y e0 e1 e2 e3 e4 e5 e6 f => by cases e2
  rintro Γ' Ω' ⟨o, L, hL, rfl, rfl⟩
  refine s_seqM (fun Γ' Ω' => ∃ o L, BadL s 9 L ∧ Γ' = fSp p s x kd o o2 (some (.dat (.list L))) ∧ Ω' = put Ω0 p (deckL a b c)) ?_ ?_
  · refine s_asg (e_op (e_var rfl (e_lstD (a_cons (e_mid rfl (by show 7 ≤ 100; decide) (a_cons (e_tupD (a_cons (e_var rfl (a_nil ⟨_, .cons .nil, rfl, a_nil ⟨_, .cons .nil, rfl, ?_⟩⟩))))))))))
    refine a_cons (e_mid rfl (by show 7 ≤ 100; decide) (a_cons (e_op (e_slT (e_op (e_var rfl (e_int (r_ixT rfl ⟨_, rfl, o_no (o_some (e_int ⟨_, rfl, e_int (r_repT kne (by decide) (by decide) kle (a_nil ⟨_, .cons .nil, rfl, ?_⟩))⟩))⟩))))))))
    refine a_nil ⟨_, .cons (.cons .nil), rfl, r_catL (by have := hL.1; show L.length + 2 ≤ 100000; omega) ⟨_, _, hL.app 2 (by show 2 ≤ 2; decide) (fun d hd => ?_), rfl, rfl⟩⟩
    simp only [List.mem_cons, List.not_mem_nil, or_false] at hd
    rcases hd with rfl | rfl
    · show Bad s (.tuple [.tuple (encD x.ds), .int x.e, .int x.a, .tuple [.int kd], .int x.sv, .int x.un, .int x.me])
      exact bad7 hl' fun y e0 e1 e2 e3 e4 e5 e6 f => by have g := f.ob; have e3 := PyData.tuple.inj e3; refine hkd (g kd ?_); match y, e3 with | ⟨_, _, _, [z], _, _, _⟩, e3 => rw [PyData.int.inj (List.cons.inj e3).1]; exact List.mem_cons_self
    · show Bad s (.tuple [.tuple (encD x.ds), .int x.e, .int x.a, .tuple (List.replicate (3 : Int).toNat (cutD (s.kinds.map PyData.int) none (some 1))).flatten, .int x.sv, .int x.un, .int x.me])
      exact bad7 hl' fun y e0 e1 e2 e3 e4 e5 e6 f => by have g := f.ol; have e3 := congrArg List.length (PyData.tuple.inj e3); rw [List.length_map, kl3] at e3; omega
  rintro Γ' Ω' ⟨o, L, hL, rfl, rfl⟩
  refine s_seqM (fun Γ' Ω' => ∃ o L, BadL s 12 L ∧ Γ' = fSp p s x kd o o2 (some (.dat (.list L))) ∧ Ω' = put Ω0 p (deckL a b c)) ?_ ?_
  · refine s_asg (e_op (e_var rfl (e_lstD (a_cons (e_mid rfl (by show 7 ≤ 100; decide) (a_cons (e_lstD (a_nil ⟨_, .nil, rfl, a_nil ⟨_, .cons .nil, rfl, ?_⟩⟩))))))))
    refine a_cons (e_mid rfl (by show 7 ≤ 100; decide) (a_cons (e_bl (a_nil ⟨_, .cons .nil, rfl, ?_⟩))))
    refine a_cons (e_mid rfl (by show 7 ≤ 100; decide) (a_cons (e_tupD (a_cons (e_bl (a_nil ⟨_, .cons .nil, rfl, a_nil ⟨_, .cons .nil, rfl, ?_⟩⟩))))))
    refine a_nil ⟨_, .cons (.cons (.cons .nil)), rfl, r_catL (by have := hL.1; show L.length + 3 ≤ 100000; omega) ⟨_, _, hL.app 3 (by show 3 ≤ 3; decide) (fun d hd => ?_), rfl, rfl⟩⟩
    simp only [List.mem_cons, List.not_mem_nil, or_false] at hd
    rcases hd with rfl | rfl | rfl
    · show Bad s (.tuple [.tuple (encD x.ds), .int x.e, .int x.a, .list [], .int x.sv, .int x.un, .int x.me])
      exact bad7 hl' fun y e0 e1 e2 e3 e4 e5 e6 f => by cases e3
    · show Bad s (.tuple [.tuple (encD x.ds), .bool false, .int x.a, itup x.op, .int x.sv, .int x.un, .int x.me])
      exact bad7 hl' fun y e0 e1 e2 e3 e4 e5 e6 f => by cases e1
    · show Bad s (.tuple [.tuple (encD x.ds), .int x.e, .int x.a, .tuple [.bool true], .int x.sv, .int x.un, .int x.me])
      exact bad7 hl' fun y e0 e1 e2 e3 e4 e5 e6 f => by match y, e3 with | ⟨_, _, _, [], _, _, _⟩, e3 => cases e3 | ⟨_, _, _, _ :: _, _, _, _⟩, e3 => cases e3
  rintro Γ' Ω' ⟨o, L, hL, rfl, rfl⟩
  refine s_seqM (fun Γ' Ω' => ∃ o L, BadL s 14 L ∧ Γ' = fSp p s x kd o o2 (some (.dat (.list L))) ∧ Ω' = put Ω0 p (deckL a b c)) ?_ ?_
  · refine s_asg (e_op (e_var rfl (e_lstD (a_cons (e_mid rfl (by show 7 ≤ 100; decide) (a_cons (e_cb (a_cons (e_var rfl (a_nil (c_boolI (a_nil ⟨_, .cons .nil, rfl, ?_⟩))))))))))))
    refine a_cons (e_mid rfl (by show 7 ≤ 100; decide) (a_cons (e_bl (a_nil ⟨_, .cons .nil, rfl, ?_⟩))))
    refine a_nil ⟨_, .cons (.cons .nil), rfl, r_catL (by have := hL.1; show L.length + 2 ≤ 100000; omega) ⟨_, _, hL.app 2 (by show 2 ≤ 2; decide) (fun d hd => ?_), rfl, rfl⟩⟩
    simp only [List.mem_cons, List.not_mem_nil, or_false] at hd
    rcases hd with rfl | rfl
    · show Bad s (.tuple [.tuple (encD x.ds), .int x.e, .int x.a, itup x.op, .bool (x.sv != 0), .int x.un, .int x.me])
      exact bad7 hl' fun y e0 e1 e2 e3 e4 e5 e6 f => by cases e4
    · show Bad s (.tuple [.tuple (encD x.ds), .int x.e, .int x.a, itup x.op, .int x.sv, .bool false, .int x.me])
      exact bad7 hl' fun y e0 e1 e2 e3 e4 e5 e6 f => by cases e5
  rintro Γ' Ω' ⟨o, L, hL, rfl, rfl⟩
  refine s_seqM (fun Γ' Ω' => ∃ o L, BadL s 16 L ∧ Γ' = fSp p s x kd o o2 (some (.dat (.list L))) ∧ Ω' = put Ω0 p (deckL a b c)) ?_ ?_
  · refine s_asg (e_op (e_var rfl (e_lstD (a_cons (e_mid rfl (by show 7 ≤ 100; decide) (a_cons (e_op (e_var rfl (e_int (r_I0i (a_nil ⟨_, .cons .nil, rfl, ?_⟩)))))))))))
    refine a_cons (e_pre rfl (by show 7 ≤ 100; decide) (a_cons (e_op (e_var rfl (e_int (r_I0i (a_cons (e_op (e_op (e_var rfl (e_int (r_I0i (e_var rfl (r_I0i (a_cons (e_int (a_nil ⟨_, .cons (.cons (.cons .nil)), rfl, ?_⟩)))))))))))))))))
    refine a_nil ⟨_, .cons (.cons .nil), rfl, r_catL (by have := hL.1; show L.length + 2 ≤ 100000; omega) ⟨_, _, hL.app 2 (by show 2 ≤ 2; decide) (fun d hd => ?_), rfl, rfl⟩⟩
    simp only [List.mem_cons, List.not_mem_nil, or_false] at hd
    rcases hd with rfl | rfl
    · show Bad s (.tuple [.tuple (encD x.ds), .int x.e, .int x.a, itup x.op, .int (x.sv + 1), .int x.un, .int x.me])
      exact bad7 hl' fun y e0 e1 e2 e3 e4 e5 e6 f => by have := f.su; have := PyData.int.inj e4; have := PyData.int.inj e5; rw [e0] at *; omega
    · show Bad s (.tuple [.tuple (encD x.ds), .int x.e, .int x.a, itup x.op, .int (x.sv + 1), .int (x.un - 1 - (x.sv + x.un)), .int 0])
      exact bad7 hl' fun y e0 e1 e2 e3 e4 e5 e6 f => by have := f.su; have := f.u0; have := PyData.int.inj e4; have := PyData.int.inj e5; rw [e0] at *; omega
  rintro Γ' Ω' ⟨o, L, hL, rfl, rfl⟩
  refine s_seqM (fun Γ' Ω' => ∃ o L, BadL s 21 L ∧ Γ' = fSp p s x kd o o2 (some (.dat (.list L))) ∧ Ω' = put Ω0 p (deckL a b c)) ?_ ?_
  · refine s_asg (e_op (e_var rfl (e_lstD (a_cons (e_pre rfl (by show 7 ≤ 100; decide) (a_cons (e_op (e_op (e_int (e_op (e_op (e_var rfl (e_int (r_ixT rfl (e_un (e_int (r_neg (r_ixT (at_kinds so) (r_Ii (by exact .inl ⟨by decide, by decide⟩) (e_int (r_I0i (a_nil ⟨_, .cons .nil, rfl, ?_⟩))))))))))))))))))))))
    refine a_cons (e_pre rfl (by show 7 ≤ 100; decide) (a_cons (e_op (e_int (e_int (r_I0i (a_nil ⟨_, .cons .nil, rfl, ?_⟩)))))))
    refine a_cons (e_pre rfl (by show 7 ≤ 100; decide) (a_cons (e_bl (a_nil ⟨_, .cons .nil, rfl, ?_⟩))))
    refine a_cons (e_slT (e_var rfl ⟨_, rfl, o_no (o_some (e_int ⟨_, rfl, a_cons (e_op (e_var rfl (e_tupD (a_cons (e_int (a_nil ⟨_, .cons .nil, rfl, r_catT (by show 7 + 1 ≤ 100000; decide) ?_⟩))))))⟩))⟩))
    refine a_nil ⟨_, .cons (.cons (.cons (.cons (.cons .nil)))), rfl, r_catL (by have := hL.1; show L.length + 5 ≤ 100000; omega) ⟨_, _, hL.app 5 (by show 5 ≤ 5; decide) (fun d hd => ?_), rfl, rfl⟩⟩
    simp only [List.mem_cons, List.not_mem_nil, or_false] at hd
    rcases hd with rfl | rfl | rfl | rfl | rfl
    · show Bad s (.tuple [.tuple (encD x.ds), .int x.e, .int x.a, itup x.op, .int x.sv, .int x.un, .int (2 * lastI s.kinds + 1)])
      exact bad7 hl' fun y e0 e1 e2 e3 e4 e5 e6 f => by have h1 := f.m1; have := PyData.int.inj e6; split at h1 <;> omega
    · show Bad s (.tuple [.tuple (encD x.ds), .int x.e, .int x.a, itup x.op, .int x.sv, .int x.un, .int (0 - 1)])
      exact bad7 hl' fun y e0 e1 e2 e3 e4 e5 e6 f => by have := f.m0; have := PyData.int.inj e6; omega
    · show Bad s (.tuple [.tuple (encD x.ds), .int x.e, .int x.a, itup x.op, .int x.sv, .int x.un, .bool false])
      exact bad7 hl' fun y e0 e1 e2 e3 e4 e5 e6 f => by cases e6
    · show Bad s (.tuple (.tuple (encD x.ds) :: [.int x.e, .int x.a, itup x.op, .int x.sv, .int x.un]))
      exact badN hl' (by show ¬ 5 = 6; decide)
    · show Bad s (.tuple (.tuple (encD x.ds) :: [.int x.e, .int x.a, itup x.op, .int x.sv, .int x.un, .int x.me, .int 0]))
      exact badN hl' (by show ¬ 7 = 6; decide)
  rintro Γ' Ω' ⟨o, L, hL, rfl, rfl⟩
  refine s_seqM (fun Γ' Ω' => ∃ o q L, BadL s 28 L ∧ (put Ω0 p (deckL a b c)) q = none ∧ Γ' = fSp p s x kd o o2 (some (.ptr q)) ∧ Ω' = put (put Ω0 p (deckL a b c)) q (L.map .dat)) ?_ ?_
  · refine s_asg (e_op (e_var rfl (e_lstD (a_cons (e_cb (a_cons (e_var rfl (a_nil (c_listT (a_cons (e_non (a_cons (e_tupD (a_nil ⟨_, .nil, rfl, ?_⟩))))))))))))))
    refine a_cons (e_post rfl (by show 7 ≤ 100; decide) (a_cons (e_cb (a_cons (e_var rfl (a_nil (c_listT (a_nil ⟨_, .cons .nil, rfl, ?_⟩))))))))
    refine a_cons (e_mid rfl (by show 7 ≤ 100; decide) (a_cons (e_str (a_nil ⟨_, .cons .nil, rfl, ?_⟩))))
    refine a_cons (e_str (a_cons (e_int (a_nil ⟨_, .cons (.cons (.cons (.cons (.cons (.cons (.cons .nil)))))), rfl, r_catLLP (by have := hL.1; show L.length + 7 ≤ 100000; omega) fun q nq => ⟨_, q, _, hL.app 7 (by show 7 ≤ 7; decide) (fun d hd => ?_), nq, rfl, rfl⟩⟩))))
    simp only [List.mem_cons, List.not_mem_nil, or_false] at hd
    rcases hd with rfl | rfl | rfl | rfl | rfl | rfl | rfl
    · exact badT rfl
    · exact badT rfl
    · exact bad_of (fun ds r e => by cases e) fun g => by cases g
    · show Bad s (.tuple [.list (encD x.ds), .int x.e, .int x.a, itup x.op, .int x.sv, .int x.un, .int x.me])
      refine bad_of (fun ds r e => by cases e) fun g => ?_
      obtain ⟨y, e0, _⟩ := bill_inv g
      cases e0
    · show Bad s (.tuple [.tuple (encD x.ds), .int x.e, .int x.a, itup x.op, .str "0", .int x.un, .int x.me])
      exact bad7 hl' fun y e0 e1 e2 e3 e4 e5 e6 f => by cases e4
    · exact badT rfl
    · exact badT rfl
  rintro Γ' Ω' ⟨o, q, L, hL, nq, rfl, rfl⟩
  refine s_seqM (fun Γ' Ω' => ∃ o q L, BadL s 31 L ∧ (put Ω0 p (deckL a b c)) q = none ∧ Γ' = fSp p s x kd o o2 (some (.ptr q)) ∧ Ω' = put (put Ω0 p (deckL a b c)) q (L.map .dat)) ?_ ?_
  · refine s_if (t_test (e_op (e_var rfl (e_int (r_I0b ⟨_, rfl, fun ha => ?_, fun _ => s_next ⟨_, q, L, ⟨by have := hL.1; omega, hL.2⟩, nq, rfl, rfl⟩⟩)))))
    have ha := of_decide_eq_true ha
    refine s_frz (ds := L) 16 rfl put_same ?_
    rw [del_put nq]
    refine s_asg (e_op (e_var rfl (e_lstD (a_cons (e_pre rfl (by show 7 ≤ 100; decide) (a_cons (e_op (e_var rfl (e_int (r_I0i (a_cons (e_int (a_cons (e_int (a_nil ⟨_, .cons (.cons (.cons .nil)), rfl, ?_⟩)))))))))))))))
    refine a_cons (e_tupD (a_cons (e_var rfl (a_cons (e_var rfl (a_cons (e_var rfl (a_cons (e_var rfl (a_cons (e_int (a_cons (e_var rfl (a_cons (e_int (a_nil ⟨_, .cons (.cons (.cons (.cons (.cons (.cons (.cons .nil)))))), rfl, ?_⟩))))))))))))))))
    refine a_cons (e_post rfl (by show 7 ≤ 100; decide) (a_cons (e_slT (e_var rfl ⟨_, rfl, o_some (e_int ⟨_, rfl, o_no (a_nil ⟨_, .cons .nil, rfl, ?_⟩)⟩)⟩))))
    refine a_nil ⟨_, .cons (.cons (.cons .nil)), rfl, r_catLLP (by have := hL.1; show L.length + 3 ≤ 100000; omega) fun q nq => ⟨_, q, _, hL.app 3 (by show 3 ≤ 3; decide) (fun d hd => ?_), nq, rfl, rfl⟩⟩
    simp only [List.mem_cons, List.not_mem_nil, or_false] at hd
    rcases hd with rfl | rfl | rfl
    · show Bad s (.tuple [.tuple (encD x.ds), .int x.e, .int x.a, itup x.op, .int (x.sv + x.un - 1), .int 1, .int 1])
      exact bad7 hl' fun y e0 e1 e2 e3 e4 e5 e6 f => by have h1 := f.m1; have := PyData.int.inj e5; have := PyData.int.inj e6; rw [if_pos (by omega)] at h1; omega
    · show Bad s (.tuple [.tuple (encD x.ds), .int x.e, .int x.a, itup x.op, .int 0, .int (x.sv + x.un), .int 2])
      exact bad7 hl' fun y e0 e1 e2 e3 e4 e5 e6 f => by have h1 := f.m1; have := PyData.int.inj e5; have := PyData.int.inj e6; rw [if_pos (by omega)] at h1; omega
    · obtain ⟨dd, dr, ed⟩ : ∃ dd dr, x.ds = dd :: dr := by
        cases e : x.ds with
        | nil => rw [e] at su; have : x.sv + x.un = 0 := su; omega
        | cons dd dr => exact ⟨dd, dr, rfl⟩
      have ec : cutD (encD x.ds) (some 1) none = encD dr := by
        rw [ed]
        exact cut_tail
      show Bad s (.tuple [.tuple (cutD (encD x.ds) (some 1) none), .int x.e, .int x.a, itup x.op, .int x.sv, .int x.un, .int x.me])
      rw [ec]
      have l2 : dr.length ≤ 100 := by rw [ed, List.length_cons] at hl; omega
      refine bad7 l2 fun y e0 e1 e2 e3 e4 e5 e6 f => ?_
      have h1 := f.su
      have := PyData.int.inj e4
      have := PyData.int.inj e5
      rw [e0] at h1
      have h2 : dsum x.ds = dd.2 + dsum dr := by rw [ed]; rfl
      have h3 : 1 ≤ dd.2 := by
        rcases ft.dd dd (by rw [ed]; exact List.mem_cons_self) with ⟨_, g⟩ | ⟨_, g⟩
        · exact (so.zb _ g).1
        · omega
      omega
  rintro Γ' Ω' ⟨o, q, L, hL, nq, rfl, rfl⟩
  refine s_seqM (fun Γ' Ω' => ∃ o q L, BadL s 32 L ∧ (put Ω0 p (deckL a b c)) q = none ∧ Γ' = fSp p s x kd o o2 (some (.ptr q)) ∧ Ω' = put (put Ω0 p (deckL a b c)) q (L.map .dat)) ?_ ?_
  · refine s_if (t_test (e_op (e_op (e_op (e_var rfl (e_int (r_ixT rfl (e_var rfl (r_I0i (e_int (r_I0b ⟨_, rfl, fun ha => ?_, fun _ => s_next ⟨_, q, L, ⟨by have := hL.1; omega, hL.2⟩, nq, rfl, rfl⟩⟩)))))))))))
    have ha := of_decide_eq_true ha
    refine s_drop (e_app (e_var rfl ⟨q, rfl, ⟨_, put_same⟩, a_cons (e_mid rfl (by show 7 ≤ 100; decide) (a_cons (e_op (e_op (e_op (e_var rfl (e_int (r_ixT rfl (e_var rfl (r_I0i (e_int (r_I0i (a_nil ⟨_, .cons .nil, rfl, a_nil ⟨_, _, rfl, put_same, by rw [List.length_map]; have := hL.1; omega, ?_⟩⟩)))))))))))))⟩))
    refine ⟨_, q, L ++ [_], hL.app 1 (Nat.le_refl 1) (fun d hd => ?_), nq, rfl, by rw [put_put, List.map_append]; rfl⟩
    rw [List.mem_singleton.mp hd]
    show Bad s (.tuple [.tuple (encD x.ds), .int (s.n - (x.sv + x.un) - 1), .int x.a, itup x.op, .int x.sv, .int x.un, .int x.me])
    exact bad_e ft hl' rfl ⟨by omega, by omega⟩
  rintro Γ' Ω' ⟨o, q, L, hL, nq, rfl, rfl⟩
  have l1 := hL.1
  have l0 := hL.2.1
  refine s_frz (ds := L) 16 rfl put_same ?_
  rw [del_put nq]
  exact s_ret (e_op (e_var rfl (e_draw rfl (e_cb (a_cons (e_var rfl (a_nil (c_lenL ⟨_, a, b, c, _, rfl, rfl, dk, by omega, by omega, by omega, fun v a b c dk v0 v1 => r_ixL_any v0 v1 fun d hd => h d a b c dk (hL.2.2 d hd)⟩))))))))
end
end K38

set_option Elab.async false
set_option linter.all false
set_option maxRecDepth 100000
set_option maxHeartbeats 2000000
namespace K38
open PySem PySem.Spec PyProof.Rows L2 Dat LamX Clo
local macro_rules | `(tactic| trivial) => `(tactic| (first
  | (with_reducible refine s_seq ?_)
  | (with_reducible refine s_asg ?_)
  | (with_reducible refine s_ret ?_)
  | (with_reducible refine s_drop ?_)
  | (with_reducible refine s_next ?_)
  | (with_reducible refine s_retN ?_)
  | (with_reducible refine s_brk ?_)
  | (with_reducible refine s_cont ?_)
  | (with_reducible refine s_if ?_)
  | (with_reducible refine e_int ?_)
  | (with_reducible refine e_str ?_)
  | (with_reducible refine e_bl ?_)
  | (with_reducible refine e_non ?_)
  | (with_reducible refine e_ty ?_)
  | (with_reducible refine e_tupD ?_)
  | (with_reducible refine e_lstD ?_)
  | (with_reducible refine e_op ?_)
  | (with_reducible refine e_un ?_)
  | (with_reducible refine e_then ?_)
  | (with_reducible refine e_cb ?_)
  | (with_reducible refine e_call ?_)
  | (with_reducible refine e_if ?_)
  | (with_reducible refine e_chain ?_)
  | (with_reducible refine e_andV ?_)
  | (with_reducible refine e_orV ?_)
  | (with_reducible refine e_notV ?_)
  | (with_reducible refine a_cons ?_)
  | (with_reducible refine a_nil ?_)
  | (with_reducible refine t_test ?_)
  | (with_reducible refine t_B ?_)
  | (with_reducible refine t_not ?_)
  | (with_reducible refine t_and ?_)
  | (with_reducible refine t_or ?_)
  | (with_reducible refine r_I0i ?_)
  | (with_reducible refine r_I0b ?_)
  | (with_reducible refine r_neg ?_)
  | (with_reducible refine r_isN ?_)
  | (with_reducible refine r_notN ?_)
  | (with_reducible refine c_lenT ?_)
  | (with_reducible refine c_lenL ?_)
  | (with_reducible refine c_intI ?_)
  | (with_reducible refine c_intB ?_)
  | (with_reducible refine c_max2 ?_)
  | (with_reducible refine c_min2 ?_)
  | (with_reducible refine c_abs ?_)
  | (with_reducible refine r_tupL ?_)
  | (with_reducible refine r_tupT ?_)
  | (with_reducible refine c_allM ?_)
  | ((with_reducible apply e_var); (exact rfl))
  | ((with_reducible refine r_eq ?_ ?_); (exact rfl))
  | ((with_reducible refine r_ne ?_ ?_); (exact rfl))
  | (with_reducible refine c_isi kit_int ?_)
  | (with_reducible refine c_isi kit_bool ?_)
  | (with_reducible refine c_isi kit_tuple ?_)
  | (with_reducible refine c_isi kit_list ?_)
  | (with_reducible refine c_isi kit_str ?_)
  | ((with_reducible apply r_ixT); (exact rfl))
  | ((with_reducible apply dats_pack); (iterate 40 (first | exact Dats.nil | apply Dats.cons | skip)); (exact rfl))
  | (with_reducible refine s_asgG ?_) | (with_reducible refine g_name ?_) | ((with_reducible refine g_tup ?_ ?_); (exact rfl)) | (refine gs_nil ?_) | (refine gs_cons ?_) | (with_reducible refine ⟨rfl, ?_⟩)
  | (refine ⟨_, rfl, ?_⟩) | (refine ⟨_, _, rfl, ?_⟩) | (refine ⟨_, _, _, rfl, ?_⟩) | (with_reducible refine ⟨fun _ => ?_, fun _ => ?_⟩) | fail))
/-! ### a bill's counts, and what is refused of it -/
theorem what_in {w : Str} (h : w ∈ wordL) : whatD (.str w) = true := by
  simp only [List.mem_cons, List.not_mem_nil, or_false] at h
  rcases h with rfl | rfl | rfl | rfl | rfl | rfl | rfl <;> decide
theorem words_of {d : PyData} (h : d ∈ [PyData.str "empty", .str "away", .str "unserved", .str "melted", .str "served", .str "seated", .str "cost"]) : ∃ w, d = .str w ∧ w ∈ wordL := by
  simp only [List.mem_cons, List.not_mem_nil, or_false] at h
  rcases h with rfl | rfl | rfl | rfl | rfl | rfl | rfl <;> exact ⟨_, rfl, by decide⟩
theorem mul_le5 {p e k : Int} (h : 0 ≤ p ∧ p ≤ 5) (g0 : 0 ≤ e) (g : e ≤ k) : 0 ≤ p * e ∧ p * e ≤ 5 * k :=
  ⟨Int.mul_nonneg h.1 g0, Int.mul_le_mul h.2 g g0 (by decide)⟩
theorem fit_le {s : Shop} {x : Bil} (so : s.Ok) (f : Fit s x) (w : Str) : 0 ≤ cnt s w x ∧ cnt s w x ≤ 500 := by
  obtain ⟨p0, p1, p2, p3, ep, h0, h1, h2, h3⟩ := prices_of so
  have e0 : pr s 0 = p0 := by unfold pr; rw [ep]; rfl
  have e1 : pr s 1 = p1 := by unfold pr; rw [ep]; rfl
  have e2 : pr s 2 = p2 := by unfold pr; rw [ep]; rfl
  have e3 : pr s 3 = p3 := by unfold pr; rw [ep]; rfl
  have n1 := so.n1
  have n4 := so.n4
  have c10 := so.c10
  have c11 := so.c11
  have c22 := so.c22
  have ls := so.zb _ (sizes_last so).2
  have lk := so.kb _ (kinds_last so).2
  have fn := f.n
  have fe := f.e
  have s0 := f.s0
  have u0 := f.u0
  have su := f.su
  have a0 := f.a0
  have a1 : x.a ≤ 6 := by
    have := f.a1
    rcases (show s.c1 = 0 ∨ s.c1 = 1 by omega) with e | e <;> rw [e] at this <;> omega
  have m0 := f.m0
  have m1 : x.me ≤ 8 := by
    have := f.m1
    split at this <;> omega
  have q0 := mul_le5 (e := x.e) (k := 4) h0 (by omega) (by omega)
  have q1 := mul_le5 (e := x.me) (k := 8) h1 m0 m1
  have q2 := mul_le5 (e := x.un) (k := 4) h2 u0 (by omega)
  have q3 := mul_le5 (e := x.a) (k := 6) h3 a0 a1
  unfold cnt
  rw [e0, e1, e2, e3]
  repeat' split
  all_goals omega
section
variable {P : Program} {w : World} {K : PySem.W.Frag} [Tb K] {mg : Str → Option Value} {base : Heap}
theorem c_reprI {Ω : AH} {P : Av → AH → Prop} {i : Int} (g : 0 ≤ i ∧ i ≤ 100000) (h : P (.dat (.str (toString i))) Ω) : RCW K (fun xs H Q => ∃ i, xs = [.int i] ∧ i.natAbs.log2 < 1920 ∧ Q (.str (toString i)) H) [.dat (.int i)] Ω P := fun F H xs Q k hx q => by
  cases hx with | cons h1 hx =>
    cases hx
    cases h1 with | dat h1 =>
      cases h1
      refine ⟨i, rfl, ?_, q _ _ _ _ h k (.dat (.str _))⟩
      by_cases z : i.natAbs = 0
      · rw [z]
        decide
      · refine (Nat.log2_lt z).mpr (Nat.lt_of_lt_of_le (m := 2 ^ 20) ?_ (Nat.pow_le_pow_right (by decide) (by decide)))
        have : (2 : Nat) ^ 20 = 1048576 := by decide
        omega
abbrev spRight : ASp := fun as Ω P => ∃ (Ω0 : AH) (p : Addr) (s : Shop) (x : Bil) (a b c : Int) (n : Nat), as = [.ptr p, .dat s.enc, .dat x.enc] ∧ Ω = put Ω0 p (deckL a b c) ∧ DkOk n b c ∧ n ≤ 4600 ∧ s.Ok ∧ Fit s x ∧ x.ds.length ≤ 4 ∧ ∀ a' b' c', DkOk (n + 5) b' c' → P (.dat (.bool true)) (put Ω0 p (deckL a' b' c'))
theorem ok_right (T : Top K mg) : FnOk P w K mg base CX0 8 T.f__law_bill_right T.d__law_bill_right ["_law_source_here", "_law_shop", "_law_slip"] (spA K spRight) := by
  have G__law_draw : FnOk P w K mg base CX0 1 T.f__law_draw T.d__law_draw ["_law_source_here", "_law_bound"] (spA K spDraw) := ok_draw T
  have G__law_count : FnOk P w K mg base CX0 1 T.f__law_count T.d__law_count ["_law_shop", "_law_tag", "_law_slip"] (spA K spLCnt) := ok_lcnt T
  have G_count_of : FnOk P w K mg base CX0 6 T.f_count_of T.d_count_of ["setup", "what", "bill"] (spA K (noX (spCount T))) := fnX_noX (ok_count T)
  have G__law_refused : FnOk P w K mg base CX0 7 T.f__law_refused T.d__law_refused ["_law_shop", "_law_tag", "_law_slip"] (spA K spRef) := ok_ref T
  have G__law_spoilt : FnOk P w K mg base CX0 2 T.f__law_spoilt T.d__law_spoilt ["_law_source_here", "_law_shop", "_law_slip"] (spA K spSpoilt) := ok_spoilt T
  refine fnA_ok T.D__law_bill_right.F sc__law_bill_right (fun as Ω P ⟨Ω0, p, s, x, a, b, c, n, e, _⟩ => by subst e; rfl) (fun cdv A outer s H E hr => ?_)
  refine ⟨_, (pss_cons (ps_for PassesOwn.never rfl (Dat.piL (K := K) rfl (pe_lst (pa_cons pe_str (pa_cons pe_str (pa_cons pe_str (pa_cons pe_str (pa_cons pe_str (pa_cons pe_str (pa_cons pe_str pa_nil))))))))) (pg_name (i := 3) sc__law_bill_right.nd rfl (.inl rfl))
      (pss_cons (ps_set (i := 4) sc__law_bill_right.nd rfl (.inl rfl) (pe_call G__law_count (hr.mono (by omega)) rfl T.D__law_count.g T.D__law_count.F.kp T.D__law_count.b .nil pass0 (pa_cons (pv 1) (pa_cons (pv 3) (pa_cons (pv 2) pa_nil)))))
      (pss_cons (ps_if (pt_cmpR op_ne (pe_callB SkE.call_repr_int rfl T.b_repr bt_repr (pa_cons (pe_call G_count_of (hr.mono (by omega)) rfl T.D_count_of.g T.D_count_of.F.kp T.D_count_of.b .nil pass0 (pa_cons (pv 1) (pa_cons (pv 3) (pa_cons (pv 2) pa_nil)))) pa_nil)) (pe_callB SkE.call_repr_int rfl T.b_repr bt_repr (pa_cons (pv 4) pa_nil)) (nomark _))
        (pss_one (ps_ret pe_bl))
        pss_nil)
      (pss_one (ps_if (pt_cmpR op_ne (pe_callB SkE.call_repr_int rfl T.b_repr bt_repr (pa_cons (pe_callN0 G_count_of (hr.mono (by omega)) rfl T.D_count_of.g T.D_count_of.F.kp T.KN_count_of__bill_what_setup pass0 (pk_cons (pv 2) (pk_cons (pv 3) (pk_cons (pv 1) pk_nil)))) pa_nil)) (pe_callB SkE.call_repr_int rfl T.b_repr bt_repr (pa_cons (pv 4) pa_nil)) (nomark _))
        (pss_one (ps_ret pe_bl))
        pss_nil)))))
    (pss_cons (ps_set (i := 5) sc__law_bill_right.nd rfl (.inl rfl) (pe_ix (Dat.ixL (K := K) rfl) (pe_lst (pa_cons pe_str (pa_cons pe_str (pa_cons pe_str (pa_cons pe_non (pa_cons pe_int (pa_cons (pe_tup (pa_cons pe_str pa_nil)) (pa_cons pe_str (pa_cons pe_bl (pa_cons (pe_lst (pa_cons pe_str pa_nil)) pa_nil)))))))))) (pe_call G__law_draw (hr.mono (by omega)) rfl T.D__law_draw.g T.D__law_draw.F.kp T.D__law_draw.b .nil pass0 (pa_cons (pv 0) (pa_cons pe_int pa_nil))) (fun _ _ => rfl)))
    (pss_cons (ps_if (pt_cmpR (Dat.neDQ (K := K) rfl (hu64 hr)) (pe_call G__law_refused (hr.mono (by omega)) rfl T.D__law_refused.g T.D__law_refused.F.kp T.D__law_refused.b .nil pass0 (pa_cons (pv 1) (pa_cons (pv 5) (pa_cons (pe_ix (Dat.ixL (K := K) rfl) (pe_lst (pa_cons (pv 2) (pa_cons pe_non pa_nil))) (pe_call G__law_draw (hr.mono (by omega)) rfl T.D__law_draw.g T.D__law_draw.F.kp T.D__law_draw.b .nil pass0 (pa_cons (pv 0) (pa_cons pe_int pa_nil))) (fun _ _ => rfl)) pa_nil)))) (pe_lst (pa_cons pe_bl (pa_cons pe_bl (pa_cons pe_bl pa_nil)))) (nomark _))
      (pss_one (ps_ret pe_bl))
      pss_nil)
    (pss_cons (ps_set (i := 6) sc__law_bill_right.nd rfl (.inl rfl) (pe_call G__law_spoilt (hr.mono (by omega)) rfl T.D__law_spoilt.g T.D__law_spoilt.F.kp T.D__law_spoilt.b .nil pass0 (pa_cons (pv 0) (pa_cons (pv 1) (pa_cons (pv 2) pa_nil)))))
    (pss_cons (ps_set (i := 3) sc__law_bill_right.nd rfl (.inl rfl) (pe_ix (Dat.ixL (K := K) rfl) (pe_lst (pa_cons pe_str (pa_cons pe_str (pa_cons pe_str (pa_cons pe_str (pa_cons pe_str (pa_cons pe_str (pa_cons pe_str pa_nil)))))))) (pe_call G__law_draw (hr.mono (by omega)) rfl T.D__law_draw.g T.D__law_draw.F.kp T.D__law_draw.b .nil pass0 (pa_cons (pv 0) (pa_cons pe_int pa_nil))) (fun _ _ => rfl)))
    (pss_one (ps_ret (pe_and (pe_cmpR (Dat.eqDQ (K := K) rfl (hu64 hr)) (pe_call G__law_refused (hr.mono (by omega)) rfl T.D__law_refused.g T.D__law_refused.F.kp T.D__law_refused.b .nil pass0 (pa_cons (pv 1) (pa_cons (pv 3) (pa_cons (pv 6) pa_nil)))) (pe_lst (pa_cons pe_bl (pa_cons pe_bl (pa_cons pe_bl pa_nil)))) (nomark _)) (pe_one (pe_cmpR (Dat.eqNilQ (K := K) rfl (hu64 hr)) (pe_call G__law_refused (hr.mono (by omega)) rfl T.D__law_refused.g T.D__law_refused.F.kp T.D__law_refused.b .nil pass0 (pa_cons (pv 1) (pa_cons (pv 3) (pa_cons (pv 2) pa_nil)))) (pe_lst pa_nil) (nomark _))))))))))), ?_⟩
  rintro as Ω P ⟨Ω0, p, s, x, a, b, c, n, rfl, rfl, dk, hn, so, ft, hl, h⟩
  have hl' : x.ds.length ≤ 100 := by omega
  have hb := ft.bill
  have hbW : bW x.enc := bW_enc hl'
  refine s_seqM (fun Γ' Ω' => ∃ y z, Γ' = [some (.ptr p), some (.dat s.enc), some (.dat x.enc), y, z, none, none] ∧ Ω' = put Ω0 p (deckL a b c)) ?_ ?_
  · refine s_for (fun as i Γ' Ω' => ∃ y z, Γ' = [some (.ptr p), some (.dat s.enc), some (.dat x.enc), y, z, none, none] ∧ Ω' = put Ω0 p (deckL a b c)) ?_
    refine i_list (e_lstD (a_cons (e_str (a_cons (e_str (a_cons (e_str (a_cons (e_str (a_cons (e_str (a_cons (e_str (a_cons (e_str (a_nil ⟨_, .cons (.cons (.cons (.cons (.cons (.cons (.cons .nil)))))), rfl, ⟨_, rfl, ⟨none, none, rfl, rfl⟩, ?_, ?_⟩⟩))))))))))))))))
    · rintro i it Γ' Ω' hit ⟨y, z, rfl, rfl⟩
      obtain ⟨d, hd, rfl⟩ := List.mem_map.mp (List.mem_of_getElem? hit)
      obtain ⟨w, rfl, hw⟩ := words_of hd
      have fl := fit_le so ft w
      refine g_name (s_seq (s_asg (e_call (a_cons (e_var rfl (a_cons (e_var rfl (a_cons (e_var rfl (a_nil ⟨s, w, x, rfl, so, hw, hl', ?_⟩))))))))))
      refine s_seq (s_if (t_test (e_op (e_cb (a_cons (e_call (a_cons (e_var rfl (a_cons (e_var rfl (a_cons (e_var rfl (a_nil ⟨s, _, _, rfl, so, fun z => absurd (what_in hw) (by rw [z]; decide), fun _ => ⟨hbW, fun z => absurd hb (by rw [z]; decide), fun _ => ⟨x, w, rfl, hl', rfl, ?_⟩⟩⟩)))))))))))))
      refine a_nil (c_reprI ⟨fl.1, by omega⟩ (e_cb (a_cons (e_var rfl (a_nil (c_reprI ⟨fl.1, by omega⟩ (r_ne rfl ⟨_, rfl, fun z => absurd z (by simp [eqD]), fun _ => s_next ?_⟩)))))))
      refine s_if (t_test (e_op (e_cb (a_cons (e_callK (a_cons (e_var rfl (a_cons (e_var rfl (a_cons (e_var rfl (a_nil ⟨rfl, s, _, _, rfl, so, fun z => absurd (what_in hw) (by rw [z]; decide), fun _ => ⟨hbW, fun z => absurd hb (by rw [z]; decide), fun _ => ⟨x, w, rfl, hl', rfl, ?_⟩⟩⟩))))))))))))
      exact a_nil (c_reprI ⟨fl.1, by omega⟩ (e_cb (a_cons (e_var rfl (a_nil (c_reprI ⟨fl.1, by omega⟩ (r_ne rfl ⟨_, rfl, fun z => absurd z (by simp [eqD]), fun _ => s_next ⟨_, _, rfl, rfl⟩⟩)))))))
    · rintro Γ' Ω' ⟨y, z, rfl, rfl⟩
      exact ⟨y, z, rfl, rfl⟩
  rintro Γ' Ω' ⟨y, z, rfl, rfl⟩
  refine s_seq (s_asg (e_op (e_lstD (a_cons (e_str (a_cons (e_str (a_cons (e_str (a_cons (e_non (a_cons (e_int (a_cons (e_tupD (a_cons (e_str (a_nil ⟨_, .cons .nil, rfl, a_cons (e_str (a_cons (e_bl (a_cons (e_lstD (a_cons (e_str (a_nil ⟨_, .cons .nil, rfl, a_nil ⟨_, .cons (.cons (.cons (.cons (.cons (.cons (.cons (.cons (.cons .nil)))))))), rfl, ?_⟩⟩))))))))⟩))))))))))))))))))
  refine e_drawN rfl dk (by omega) (by decide) (by decide) fun v a b c dk v0 v1 => r_ixL_any v0 v1 fun wd hwd => ?_
  have hwr : whatD wd = false := by
    simp only [List.mem_cons, List.not_mem_nil, or_false] at hwd
    rcases hwd with rfl | rfl | rfl | rfl | rfl | rfl | rfl | rfl | rfl <;> decide
  clear hwd
  refine s_seq (s_if (t_test (e_op (e_call (a_cons (e_var rfl (a_cons (e_var rfl (a_cons (e_op (e_lstD (a_cons (e_var rfl (a_cons (e_non (a_nil ⟨_, .cons (.cons .nil), rfl, e_drawN rfl dk (by omega) (by decide) (by decide) fun u a b c dk u0 u1 => r_ixL_any u0 u1 fun dd _ => a_nil ⟨s, wd, dd, rfl, so, fun _ => ?_, fun z => absurd z (by rw [hwr]; decide)⟩⟩))))))))))))))))
  refine e_lstD (a_cons (e_bl (a_cons (e_bl (a_cons (e_bl (a_nil ⟨_, .cons (.cons (.cons .nil)), rfl, r_neD rfl rfl ⟨_, rfl, fun z => absurd z (by decide), fun _ => s_next ?_⟩⟩)))))))
  refine s_seq (s_asg (e_call (a_cons (e_var rfl (a_cons (e_var rfl (a_cons (e_var rfl (a_nil ⟨Ω0, p, s, x, a, b, c, _, rfl, rfl, dk, by omega, so, ft, hl, fun sp a b c dk hsp => ?_⟩)))))))))
  refine s_seq (s_asg (e_op (e_lstD (a_cons (e_str (a_cons (e_str (a_cons (e_str (a_cons (e_str (a_cons (e_str (a_cons (e_str (a_cons (e_str (a_nil ⟨_, .cons (.cons (.cons (.cons (.cons (.cons (.cons .nil)))))), rfl, ?_⟩))))))))))))))))))
  refine e_drawN rfl dk (by omega) (by decide) (by decide) fun v a b c dk v0 v1 => r_ixL_any v0 v1 fun wd hwd => ?_
  obtain ⟨w, rfl, hw⟩ := words_of hwd
  clear hwd v0 v1
  have hw1 := what_in hw
  refine s_ret (e_andV (e_op (e_call (a_cons (e_var rfl (a_cons (e_var rfl (a_cons (e_var rfl (a_nil ⟨s, _, sp, rfl, so, fun z => absurd hw1 (by rw [z]; decide), fun _ => ⟨hsp.1, fun _ => ?_, fun z => absurd z (by rw [hsp.2]; decide)⟩⟩))))))))))
  refine e_lstD (a_cons (e_bl (a_cons (e_bl (a_cons (e_bl (a_nil ⟨_, .cons (.cons (.cons .nil)), rfl, r_eqD rfl rfl ⟨_, rfl, fun _ => ?_, fun z => absurd z (by decide)⟩⟩)))))))
  refine e_op (e_call (a_cons (e_var rfl (a_cons (e_var rfl (a_cons (e_var rfl (a_nil ⟨s, _, _, rfl, so, fun z => absurd hw1 (by rw [z]; decide), fun _ => ⟨hbW, fun z => absurd hb (by rw [z]; decide), fun _ => ⟨x, w, rfl, hl', rfl, ?_⟩⟩⟩))))))))
  exact e_lstD (a_nil ⟨_, .nil, rfl, r_eqNil (h a b c (dk.mono (by omega)))⟩)
end
end K38

set_option Elab.async false
set_option linter.all false
set_option maxRecDepth 100000
set_option maxHeartbeats 4000000
namespace K38
open PySem PySem.Spec PyProof.Rows L2 Dat LamX Clo Shw
local macro_rules | `(tactic| trivial) => `(tactic| (first
  | (with_reducible refine s_seq ?_)
  | (with_reducible refine s_asg ?_)
  | (with_reducible refine s_ret ?_)
  | (with_reducible refine s_drop ?_)
  | (with_reducible refine s_next ?_)
  | (with_reducible refine s_retN ?_)
  | (with_reducible refine s_brk ?_)
  | (with_reducible refine s_cont ?_)
  | (with_reducible refine s_if ?_)
  | (with_reducible refine e_int ?_)
  | (with_reducible refine e_str ?_)
  | (with_reducible refine e_bl ?_)
  | (with_reducible refine e_non ?_)
  | (with_reducible refine e_ty ?_)
  | (with_reducible refine e_tupD ?_)
  | (with_reducible refine e_lstD ?_)
  | (with_reducible refine e_op ?_)
  | (with_reducible refine e_un ?_)
  | (with_reducible refine e_then ?_)
  | (with_reducible refine e_cb ?_)
  | (with_reducible refine e_call ?_)
  | (with_reducible refine e_if ?_)
  | (with_reducible refine e_chain ?_)
  | (with_reducible refine e_andV ?_)
  | (with_reducible refine e_orV ?_)
  | (with_reducible refine e_notV ?_)
  | (with_reducible refine a_cons ?_)
  | (with_reducible refine a_nil ?_)
  | (with_reducible refine t_test ?_)
  | (with_reducible refine t_B ?_)
  | (with_reducible refine t_not ?_)
  | (with_reducible refine t_and ?_)
  | (with_reducible refine t_or ?_)
  | (with_reducible refine r_I0i ?_)
  | (with_reducible refine r_I0b ?_)
  | (with_reducible refine r_neg ?_)
  | (with_reducible refine r_isN ?_)
  | (with_reducible refine r_notN ?_)
  | (with_reducible refine c_lenT ?_)
  | (with_reducible refine c_lenL ?_)
  | (with_reducible refine c_intI ?_)
  | (with_reducible refine c_intB ?_)
  | (with_reducible refine c_max2 ?_)
  | (with_reducible refine c_min2 ?_)
  | (with_reducible refine c_abs ?_)
  | (with_reducible refine r_tupL ?_)
  | (with_reducible refine r_tupT ?_)
  | (with_reducible refine c_allM ?_)
  | ((with_reducible apply e_var); (exact rfl))
  | ((with_reducible refine r_eq ?_ ?_); (exact rfl))
  | ((with_reducible refine r_ne ?_ ?_); (exact rfl))
  | (with_reducible refine c_isi kit_int ?_)
  | (with_reducible refine c_isi kit_bool ?_)
  | (with_reducible refine c_isi kit_tuple ?_)
  | (with_reducible refine c_isi kit_list ?_)
  | (with_reducible refine c_isi kit_str ?_)
  | ((with_reducible apply r_ixT); (exact rfl))
  | ((with_reducible apply dats_pack); (iterate 40 (first | exact Dats.nil | apply Dats.cons | skip)); (exact rfl))
  | (with_reducible refine s_asgG ?_) | (with_reducible refine g_name ?_) | ((with_reducible refine g_tup ?_ ?_); (exact rfl)) | (refine gs_nil ?_) | (refine gs_cons ?_) | (with_reducible refine ⟨rfl, ?_⟩)
  | (refine ⟨_, rfl, ?_⟩) | (refine ⟨_, _, rfl, ?_⟩) | (refine ⟨_, _, _, rfl, ?_⟩) | (with_reducible refine ⟨fun _ => ?_, fun _ => ?_⟩) | fail))
/-! ### the law -/
abbrev csL : Scope := { kind := .function, names := [(".0", .local), ("_law_word", .cell), ("sum", .globalImplicit), ("_law_bills", .cell), ("_law_shop", .cell)], isGenerator := false, isCoroutine := false }
theorem sh_shown {d : PyData} {k w : Nat} (h : Sh d k w) (hk : k ≤ 64) (hw : w ≤ 2 ^ 20) : Shown d := ⟨h.s, (fun z => by rw [h.n] at z; cases z), Nat.le_trans h.k hk, h.fits hw⟩
theorem rng_it {n j : Nat} {x : Av} (h : (rngA 0 n)[j]? = some x) : j < n ∧ x = .dat (.int (0 + (j : Nat))) := by
  obtain ⟨hj, e⟩ := rng_at h
  exact ⟨hj, e⟩
theorem tot_le {s : Shop} (so : s.Ok) (w : Str) : ∀ {bs : List Bil}, (∀ b ∈ bs, Fit s b) → 0 ≤ tot s bs w ∧ tot s bs w ≤ 500 * (bs.length : Int)
  | [], _ => ⟨Int.le_refl 0, Int.le_refl 0⟩
  | b :: bs, h => by
    have g := tot_le so w (bs := bs) fun x hx => h x (List.mem_cons_of_mem _ hx)
    have f := fit_le so (h b List.mem_cons_self) w
    have e : tot s (b :: bs) w = cnt s w b + tot s bs w := rfl
    rw [e, List.length_cons]
    omega
theorem shown_tot {s : Shop} (so : s.Ok) {bs : List Bil} (h : ∀ b ∈ bs, Fit s b) (l : bs.length ≤ 200) : Shown (totD s bs) :=
  sh_shown (Sh.tup (k := 0) (w := 40) (n := 7) (fun x hx => by
    obtain ⟨w, hw, rfl⟩ := List.mem_map.mp hx
    have g := tot_le so w h
    exact Sh.int (by omega)) (by rw [List.length_map]; decide)) (by decide) (by decide)
section
variable {P : Program} {w : World} {K : PySem.W.Frag} [Tb K] {mg : Str → Option Value} {base : Heap}
abbrev spLawA : ASp := fun as Ω P => ∃ ns : List Int, as = [.scr ns] ∧ ns.length ≤ 63 ∧ ∀ Ω', P (.dat (.bool true)) Ω'
theorem ok_law (T : Top K mg) {Pw : Addr} (TB : TabB base mg T.cw Pw) (hT : Tb.T (K := K) = [(Pw, lamQ)]) {f : Addr} {fd : FuncData} (F : L2.Fun K "law" "law" s_law f fd) : Grd.FnG P w K mg base CX0 11 f fd ["_law_script"] (spA K spLawA) := by
  have G__law_source : FnOk P w K mg base CX0 1 T.f__law_source T.d__law_source ["_law_script", "_law_index"] (spA K spSrc) := ok_src T
  have G__law_draw : FnOk P w K mg base CX0 1 T.f__law_draw T.d__law_draw ["_law_source_here", "_law_bound"] (spA K spDraw) := ok_draw T
  have G__law_setup : FnOk P w K mg base CX0 3 T.f__law_setup T.d__law_setup ["_law_source_here"] (spA K spSetup) := ok_setup T
  have G__law_rule : FnOk P w K mg base CX0 4 T.f__law_rule T.d__law_rule ["_law_source_here", "_law_many", "_law_moods"] (spA K spRule) := ok_rule T
  have G__law_comers : FnOk P w K mg base CX0 1 T.f__law_comers T.d__law_comers ["_law_shop"] (spA K spEvery) := ok_every T
  have G__law_made : FnOk P w K mg base CX0 2 T.f__law_made T.d__law_made ["_law_source_here", "_law_shop"] (spA K spMade) := ok_made T
  have G__law_count : FnOk P w K mg base CX0 1 T.f__law_count T.d__law_count ["_law_shop", "_law_tag", "_law_slip"] (spA K spLCnt) := ok_lcnt T
  have G__law_bill_right : FnOk P w K mg base CX0 8 T.f__law_bill_right T.d__law_bill_right ["_law_source_here", "_law_shop", "_law_slip"] (spA K spRight) := ok_right T
  have G_bills_of : FnOk P w K mg base CX0 10 T.f_bills_of T.d_bills_of ["setup", "rule", "row"] (spA K spBills) := ok_bills T TB hT
  have G_totals_of : FnOk P w K mg base CX0 10 T.f_totals_of T.d_totals_of ["setup", "rule", "row"] (spA K spTot) := ok_tot T TB hT
  refine fngA_ok F sc_law (fun as Ω P ⟨ns, e, _⟩ => by subst e; rfl) (fun cdv A outer s H E hr hgd => ?_)
  refine ⟨_, (pss_cons (ps_set (i := 1) sc_law.nd rfl (.inl rfl) (pe_lst (pa_cons pe_str (pa_cons pe_str (pa_cons pe_str (pa_cons pe_str (pa_cons pe_str (pa_cons pe_str (pa_cons pe_str pa_nil)))))))))
    (pss_cons (ps_for PassesOwn.never rfl (pi_range1 rfl T.b_range (pa_cons (pe_callB (Dat.cl_max2 rfl) rfl T.b_max bt_max (pa_cons pe_int (pa_cons (pe_callB (Dat.cl_min2 rfl) rfl T.b_min bt_min (pa_cons pe_int (pa_cons (pe_callB (Dat.lenQ (K := K) rfl) rfl T.b_len bt_len (pa_cons (pv 0) pa_nil)) pa_nil))) pa_nil))) pa_nil)) (pg_name (i := 2) sc_law.nd rfl (.inl rfl))
      (pss_cons (ps_set (i := 3) sc_law.nd rfl (.inr rfl) (pe_call G__law_source (hr.mono (by omega)) rfl T.D__law_source.g T.D__law_source.F.kp T.D__law_source.b .nil pass0 (pa_cons (pv 0) (pa_cons (pv 2) pa_nil))))
      (pss_cons (ps_asg (pe_tup (pa_cons (pe_call G__law_setup (hr.mono (by omega)) rfl T.D__law_setup.g T.D__law_setup.F.kp T.D__law_setup.b .nil pass0 (pa_cons (pv 3) pa_nil)) (pa_cons (pe_call G__law_rule (hr.mono (by omega)) rfl T.D__law_rule.g T.D__law_rule.F.kp T.D__law_rule.b .nil pass0 (pa_cons (pv 3) (pa_cons pe_int (pa_cons pe_int pa_nil)))) pa_nil))) (Dat.pgT (K := K) (n := 2) rfl rfl (pgs_cons (pg_name (i := 4) sc_law.nd rfl (.inr rfl)) (pgs_cons (pg_name (i := 5) sc_law.nd rfl (.inl rfl)) pgs_nil))))
      (pss_cons (ps_set (i := 6) sc_law.nd rfl (.inr rfl) (pe_call G__law_comers (hr.mono (by omega)) rfl T.D__law_comers.g T.D__law_comers.F.kp T.D__law_comers.b .nil pass0 (pa_cons (pv 4) pa_nil)))
      (pss_cons (ps_setLc (i := 7) (own := [("_law_beat", 8)]) (g := (gName 8)) (tt := tYes) rfl sc_law.nd rfl rfl (sw_true rfl rfl rfl (by decide +kernel)) (pi_range1 rfl T.b_range (pa_cons (pe_call G__law_draw (hr.mono (by omega)) rfl T.D__law_draw.g T.D__law_draw.F.kp T.D__law_draw.b .nil pass0 (pa_cons (pv 3) (pa_cons pe_int pa_nil))) pa_nil)) (blkOk_by (N := N_law) (sc := defScope s_law) (by decide +kernel)) (fun _ _ _ _ _ => (pg_name (i := 8) sc_law.nd rfl (Or.inl rfl))) (fun _ _ _ _ _ => pts_nil) (fun _ _ _ _ _ => (pe_ix (Dat.ixL (K := K) rfl) (pv 6) (pe_call G__law_draw (hr.mono (by omega)) rfl T.D__law_draw.g T.D__law_draw.F.kp T.D__law_draw.b .nil pass0 (pa_cons (pv 3) (pa_cons (pe_callB (Dat.lenQ (K := K) rfl) rfl T.b_len bt_len (pa_cons (pv 6) pa_nil)) pa_nil))) (fun _ _ => rfl))))
      (pss_cons (ps_set (i := 9) sc_law.nd rfl (.inr rfl) (pe_call G_bills_of (hr.mono (by omega)) rfl T.D_bills_of.g T.D_bills_of.F.kp T.D_bills_of.b .nil pass0 (pa_cons (pv 4) (pa_cons (pv 5) (pa_cons (pv 7) pa_nil)))))
      (pss_cons (ps_for PassesOwn.never rfl (Dat.piL (K := K) rfl (pe_op op_cat (pe_slice (Dat.slL (K := K) rfl) (pv 9) po_none (po_some pe_int)) (pe_lst (pa_cons (pe_call G__law_made (hr.mono (by omega)) rfl T.D__law_made.g T.D__law_made.F.kp T.D__law_made.b .nil pass0 (pa_cons (pv 3) (pa_cons (pv 4) pa_nil))) (pa_cons (pe_call G__law_made (hr.mono (by omega)) rfl T.D__law_made.g T.D__law_made.F.kp T.D__law_made.b .nil pass0 (pa_cons (pv 3) (pa_cons (pv 4) pa_nil))) pa_nil))))) (pg_name (i := 10) sc_law.nd rfl (.inl rfl))
        (pss_one (ps_if (pt_not (pt_val (pe_call G__law_bill_right (hr.mono (by omega)) rfl T.D__law_bill_right.g T.D__law_bill_right.F.kp T.D__law_bill_right.b .nil pass0 (pa_cons (pv 3) (pa_cons (pv 4) (pa_cons (pv 10) pa_nil))))))
          (pss_one (ps_ret pe_bl))
          pss_nil)))
      (pss_cons (ps_set (i := 11) sc_law.nd rfl (.inl rfl) (Dat.pe_tupleK (K := K) rfl rfl T.b_tuple (pe_lc (own := [("_law_word", 12)]) (g := (gName 12)) (tt := tYes) rfl sc_law.nd (Dat.piL (K := K) rfl (pv 1)) (blkOk_by (N := N_law) (sc := defScope s_law) (by decide +kernel)) (fun _ _ _ _ _ => (pg_name (i := 12) sc_law.nd rfl (Or.inr rfl))) (fun _ _ _ _ _ => pts_nil) (fun _ _ _ _ _ => (pe_callB (Dat.sumQ (K := K) rfl rfl) rfl T.b_sum bt_sum (pa_cons (pe_lc (own := [("_law_slip", 10)]) (g := (gName 10)) (tt := tYes) rfl sc_law.nd (Dat.piL (K := K) rfl (pv 9)) (blkOk_by (N := N_law) (sc := csL) (by decide +kernel)) (fun _ _ _ _ _ => (pg_name (i := 10) sc_law.nd rfl (Or.inl rfl))) (fun _ _ _ _ _ => pts_nil) (fun _ _ _ _ _ => (pe_call G__law_count (hr.mono (by omega)) rfl T.D__law_count.g T.D__law_count.F.kp T.D__law_count.b .nil pass0 (pa_cons (pv 4) (pa_cons (pv 12) (pa_cons (pv 10) pa_nil)))))) pa_nil))))))
      (pss_cons (ps_if (pt_cmpR op_ne (pe_callB (Dat.reprQ (K := K) rfl hgd (hu100 hr)) rfl T.b_repr bt_repr (pa_cons (pe_call G_totals_of (hr.mono (by omega)) rfl T.D_totals_of.g T.D_totals_of.F.kp T.D_totals_of.b .nil pass0 (pa_cons (pv 4) (pa_cons (pv 5) (pa_cons (pv 7) pa_nil)))) pa_nil)) (pe_callB (Dat.reprQ (K := K) rfl hgd (hu100 hr)) rfl T.b_repr bt_repr (pa_cons (pv 11) pa_nil)) (nomark _))
        (pss_one (ps_ret pe_bl))
        pss_nil)
      (pss_one (ps_if (pt_cmpR op_ne (pe_callB (Dat.reprQ (K := K) rfl hgd (hu100 hr)) rfl T.b_repr bt_repr (pa_cons (pe_callN0 G_totals_of (hr.mono (by omega)) rfl T.D_totals_of.g T.D_totals_of.F.kp T.KN_totals_of__row_rule_setup pass0 (pk_cons (pv 7) (pk_cons (pv 5) (pk_cons (pv 4) pk_nil)))) pa_nil)) (pe_callB (Dat.reprQ (K := K) rfl hgd (hu100 hr)) rfl T.b_repr bt_repr (pa_cons (pv 11) pa_nil)) (nomark _))
        (pss_one (ps_ret pe_bl))
        pss_nil)))))))))))
    (pss_one (ps_ret pe_bl)))), ?_⟩
  rintro as Ω P ⟨ns, rfl, hns, h⟩
  refine s_seq (s_asg (e_lstD (a_cons (e_str (a_cons (e_str (a_cons (e_str (a_cons (e_str (a_cons (e_str (a_cons (e_str (a_cons (e_str (a_nil ⟨_, .cons (.cons (.cons (.cons (.cons (.cons (.cons .nil)))))), rfl, ?_⟩)))))))))))))))))
  refine s_seqM (fun Γ' Ω' => True) ?_ (fun Γ' Ω' _ => s_ret (e_bl (h _)))
  refine s_for (fun as i Γ' Ω' => as = rngA 0 as.length ∧ ∃ x2 x3 x4 x5 x6 x7 x8 x9 x10 x11 x12, Γ' = [some (.scr ns), some (.dat (.list (wordL.map PyData.str))), x2, x3, x4, x5, x6, x7, x8, x9, x10, x11, x12]) ?_
  refine i_rng1 (a_cons (e_cb (a_cons (e_int (a_cons (e_cb (a_cons (e_int (a_cons (e_cb (a_cons (e_var rfl (a_nil (c_lenS (a_nil (c_min2 (a_nil (c_max2 (a_nil ⟨_, rfl, ?_, ⟨?_, none, none, none, none, none, none, none, none, none, none, none, rfl⟩, ?_, fun Γ' Ω' _ => trivial⟩)))))))))))))))))))
  · constructor <;> (repeat' split) <;> omega
  · simp [rngA]
  rintro i it Γ' Ω0 hit ⟨eas, x2, x3, x4, x5, x6, x7, x8, x9, x10, x11, x12, rfl⟩
  have hi := (List.getElem?_eq_some_iff.mp hit).1
  rw [eas] at hit
  obtain ⟨hj, rfl⟩ := rng_it hit
  rw [show (0 : Int) + (i : Nat) = ((i : Nat) : Int) by omega]
  have hi2 : i ≤ 100 := by
    have : (rngA 0 (if (if (ns.length : Int) < 2 then (ns.length : Int) else 2) > 1 then (if (ns.length : Int) < 2 then (ns.length : Int) else 2) else 1).toNat).length ≤ 100 := by
      unfold rngA
      rw [List.length_map, List.length_range]
      (repeat' split) <;> omega
    exact Nat.le_of_lt (Nat.lt_of_lt_of_le hi this)
  refine g_name (s_seq (s_asg (e_call (a_cons (e_var rfl (a_cons (e_var rfl (a_nil ⟨ns, i, rfl, hi2, fun p a b c np dk => ?_⟩))))))))
  refine s_seq (s_asgG (e_tupD (a_cons (e_call (a_cons (e_var rfl (a_nil ⟨Ω0, p, a, b, c, _, rfl, rfl, dk, by omega, fun s ps a b c dk so _ _ _ => ?_⟩)))))))
  refine a_cons (e_call (a_cons (e_var rfl (a_cons (e_int (a_cons (e_int (a_nil ⟨Ω0, p, 6, 2, a, b, c, _, rfl, rfl, dk, by omega, by decide, by decide, by decide, by decide, fun rs ts a b c dk po => ?_⟩))))))))
  refine a_nil ⟨_, .cons (.cons .nil), rfl, g_tup rfl (gs_cons (g_name ⟨rfl, gs_cons (g_name ⟨rfl, gs_nil ?_⟩)⟩))⟩
  refine s_seq (s_asg (e_call (a_cons (e_var rfl (a_nil ⟨s, rfl, so, fun ev evo ev1 ev2 => ?_⟩)))))
  refine sw_g (Γ' := [some (.scr ns), some (.dat (.list (wordL.map PyData.str))), some (.dat (.int (i : Nat))), some (.ptr p), some (.dat s.enc), some (.dat (plan rs ts)), some (.dat (.list (ev.map Com.enc))), x7, x8, x9, x10, x11, x12]) rfl ?_
  refine s_seqM (fun Γ' Ω' => ∃ (cs : List Com) (a b c : Int), cs.length ≤ 200 ∧ (∀ c ∈ cs, c.Ok s) ∧ DkOk 600 b c ∧ Γ' = [some (.scr ns), some (.dat (.list (wordL.map PyData.str))), some (.dat (.int (i : Nat))), some (.ptr p), some (.dat s.enc), some (.dat (plan rs ts)), some (.dat (.list (ev.map Com.enc))), some (.dat (.list (cs.map Com.enc))), x8, x9, x10, x11, x12] ∧ Ω' = put Ω0 p (deckL a b c)) ?_ ?_
  · refine s_asg (EW.frz ?_)
    refine e_lc (gn_name (by decide)) (fun D as j acc Ω' => Ω0 D = none ∧ D ≠ p ∧ ∃ (cs : List Com) (a b c : Int), as.length ≤ 21 ∧ j ≤ as.length ∧ acc = (cs.map Com.enc).map .dat ∧ cs.length = j ∧ (∀ c ∈ cs, c.Ok s) ∧ DkOk (500 + j) b c ∧ Ω' = put (put Ω0 D acc) p (deckL a b c)) ?_
    refine i_rng1 (a_cons (e_drawN rfl dk (by omega) (by decide) (by decide) fun t a b c dk t0 t1 => a_nil ⟨t, rfl, ⟨by omega, by omega⟩, by (unfold rngA; rw [List.length_map, List.length_range]; omega), fun D nD => ⟨?_, fun j x acc Ω' ex hM => ?_, fun acc Ω' hM => ?_⟩⟩))
    · have ne : D ≠ p := fun e => by rw [e, put_same] at nD; cases nD
      rw [put_ne ne] at nD
      exact ⟨nD, ne, [], a, b, c, by (unfold rngA; rw [List.length_map, List.length_range]; omega), Nat.zero_le _, rfl, rfl, nofun, dk.mono (by omega), Dat.put_comm ne.symm⟩
    · obtain ⟨nD, ne, cs, a, b, c, las, _, rfl, hl', hb, dk, rfl⟩ := hM
      have hj := (List.getElem?_eq_some_iff.mp ex).1
      refine ⟨by rw [put_ne ne, put_same], by rw [List.length_map, List.length_map]; omega, g_name (t_yes ⟨fun _ => ?_, nofun⟩)⟩
      refine e_op (e_var rfl (e_draw rfl (e_cb (a_cons (e_var rfl (a_nil (c_lenL ⟨_, a, b, c, _, rfl, rfl, dk, by omega, by rw [List.length_map]; omega, by rw [List.length_map]; omega, fun v a b c dk v0 v1 => r_ixL_any v0 v1 fun d hd => ?_⟩)))))))
      obtain ⟨cm, hcm, rfl⟩ := List.mem_map.mp hd
      refine ⟨by rw [put_ne ne, put_same], nD, ne, cs ++ [cm], a, b, c, las, hj, by simp, by simp [hl'], fun v hv => ?_, dk.mono (by omega), ?_⟩
      · rcases List.mem_append.mp hv with hv | hv
        · exact hb v hv
        · rw [List.mem_singleton.mp hv]
          exact evo cm hcm
      · rw [Dat.put_comm ne.symm, put_put]
    · obtain ⟨nD, ne, cs, a, b, c, las, hj, rfl, hl', hb, dk, rfl⟩ := hM
      refine ⟨D, cs.map Com.enc, rfl, by rw [put_ne ne, put_same], cs, a, b, c, by omega, hb, dk.mono (by omega), rfl, ?_⟩
      rw [Dat.put_comm ne, del_put (by rw [put_ne ne]; exact nD)]
  rintro Γ' Ω' ⟨cs, a, b, c, hl, co, dk, rfl, rfl⟩
  refine s_seq (s_asg (e_call (a_cons (e_var rfl (a_cons (e_var rfl (a_cons (e_var rfl (a_nil ⟨s, rs, ts, cs, rfl, so, po, co, hl, fun R eR q nq => ?_⟩)))))))))
  have hb := hrun_bil so po (x := (h0, [])) co (h0_ok so) (fun b m => by cases m)
  have hf := hrun_fit so po (x := (h0, [])) co (h0_ok so) ⟨nofun, nofun⟩ (fun b m => by cases m)
  rw [← eR] at hb hf
  have lb : R.2.length ≤ 200 := by
    have := hb.2
    have : R.2.length = 0 + cs.length := this
    omega
  have sh := shown_tot so hf lb
  refine s_frz (ds := R.2.map Bil.enc) 9 rfl put_same ?_
  rw [del_put nq]
  refine sw_g (Γ' := [some (.scr ns), some (.dat (.list (wordL.map PyData.str))), some (.dat (.int (i : Nat))), some (.ptr p), some (.dat s.enc), some (.dat (plan rs ts)), some (.dat (.list (ev.map Com.enc))), some (.dat (.list (cs.map Com.enc))), x8, some (.dat (.list (R.2.map Bil.enc))), x10, x11, x12]) rfl ?_
  refine s_seqM (fun Γ' Ω' => ∃ (a b c : Int) (y : Option Av), DkOk 1000 b c ∧ Γ' = [some (.scr ns), some (.dat (.list (wordL.map PyData.str))), some (.dat (.int (i : Nat))), some (.ptr p), some (.dat s.enc), some (.dat (plan rs ts)), some (.dat (.list (ev.map Com.enc))), some (.dat (.list (cs.map Com.enc))), x8, some (.dat (.list (R.2.map Bil.enc))), y, x11, x12] ∧ Ω' = put Ω0 p (deckL a b c)) ?_ ?_
  · refine s_for (fun as j Γ' Ω' => (∀ t ∈ as, ∃ x : Bil, t = .dat x.enc ∧ Fit s x ∧ x.ds.length ≤ 4) ∧ as.length ≤ 5 ∧ ∃ (a b c : Int) (y : Option Av), DkOk (700 + 5 * j) b c ∧ Γ' = [some (.scr ns), some (.dat (.list (wordL.map PyData.str))), some (.dat (.int (i : Nat))), some (.ptr p), some (.dat s.enc), some (.dat (plan rs ts)), some (.dat (.list (ev.map Com.enc))), some (.dat (.list (cs.map Com.enc))), x8, some (.dat (.list (R.2.map Bil.enc))), y, x11, x12] ∧ Ω' = put Ω0 p (deckL a b c)) ?_
    refine i_list (e_op (e_slL (e_var rfl ⟨_, rfl, o_no (o_some (e_int ⟨_, rfl, ?_⟩))⟩)))
    refine e_lstD (a_cons (e_call (a_cons (e_var rfl (a_cons (e_var rfl (a_nil ⟨Ω0, p, s, a, b, c, _, rfl, rfl, dk, by omega, so, fun y1 a b c dk f1 l1 => ?_⟩)))))))
    refine a_cons (e_call (a_cons (e_var rfl (a_cons (e_var rfl (a_nil ⟨Ω0, p, s, a, b, c, _, rfl, rfl, dk, by omega, so, fun y2 a b c dk f2 l2 => ?_⟩))))))
    have lc : (Dat.cutD (R.2.map Bil.enc) none (some 3)).length ≤ 3 := by
      unfold Dat.cutD
      rw [List.length_take]
      exact Nat.le_trans (Nat.min_le_left _ _) (by simp [HT.sIx]; omega)
    refine a_nil ⟨_, .cons (.cons .nil), rfl, r_catL (by show _ + 2 ≤ 100000; omega) ⟨_, rfl, ⟨fun t ht => ?_, by rw [List.length_map, List.length_append]; show _ + 2 ≤ 5; omega, a, b, c, _, dk.mono (by omega), rfl, rfl⟩, ?_, ?_⟩⟩
    · obtain ⟨d, hd, rfl⟩ := List.mem_map.mp ht
      rcases List.mem_append.mp hd with hd | hd
      · obtain ⟨x, hx, rfl⟩ := List.mem_map.mp (cutD_mem hd)
        exact ⟨x, rfl, hf x hx, (hb.1 x hx).l⟩
      · simp only [List.mem_cons, List.not_mem_nil, or_false] at hd
        rcases hd with rfl | rfl
        · exact ⟨y1, rfl, f1, l1⟩
        · exact ⟨y2, rfl, f2, l2⟩
    · rintro j jt Γ' Ω' hjt ⟨hall, l5, a, b, c, y, dk, rfl, rfl⟩
      have hj := (List.getElem?_eq_some_iff.mp hjt).1
      obtain ⟨x, rfl, fx, lx⟩ := hall jt (List.mem_of_getElem? hjt)
      exact g_name (s_if (t_not (t_test (e_call (a_cons (e_var rfl (a_cons (e_var rfl (a_cons (e_var rfl (a_nil ⟨Ω0, p, s, x, a, b, c, _, rfl, rfl, dk, by omega, so, fx, lx, fun a b c dk => ⟨true, rfl, (fun z => by cases z), fun _ => s_next ⟨hall, l5, a, b, c, _, dk.mono (by omega), rfl, rfl⟩⟩⟩)))))))))))
    · rintro Γ' Ω' ⟨hall, l5, a, b, c, y, dk, rfl, rfl⟩
      exact ⟨a, b, c, y, dk.mono (by omega), rfl, rfl⟩
  rintro Γ' Ω' ⟨a, b, c, y, dk, rfl, rfl⟩
  refine s_seq (s_asg (e_then (e_lcM wordL (fun w => .dat (.str w)) (fun w => .int (tot s R.2 w)) (gn_name (by decide)) (by decide) ?_)))
  refine i_list (e_var rfl ⟨_, rfl, rfl, fun w Ω' hw _ => g_name ⟨rfl, ?_⟩, ?_⟩)
  · refine e_cb (a_cons (e_lcM R.2 (fun b => .dat b.enc) (fun b => .int (cnt s w b)) (gn_name (by decide)) (by omega) ?_))
    refine i_list (e_var rfl ⟨_, rfl, (by rw [List.map_map]; rfl), fun b Ω'' hb' _ => g_name ⟨rfl, ?_⟩, ?_⟩)
    · have := (hb.1 b hb').l
      exact e_call (a_cons (e_var rfl (a_cons (e_var rfl (a_cons (e_var rfl (a_nil ⟨s, w, b, rfl, so, hw, by omega, rfl, rfl⟩)))))))
    · rw [ints_cnt]
      exact a_nil (c_sum ⟨rfl, rfl⟩)
  refine r_tupL ?_
  refine sw_g (Γ' := [some (.scr ns), some (.dat (.list (wordL.map PyData.str))), some (.dat (.int (i : Nat))), some (.ptr p), some (.dat s.enc), some (.dat (plan rs ts)), some (.dat (.list (ev.map Com.enc))), some (.dat (.list (cs.map Com.enc))), x8, some (.dat (.list (R.2.map Bil.enc))), y, some (.dat (totD s R.2)), x12]) rfl ?_
  refine s_seq (s_if (t_test (e_op (e_cb (a_cons (e_call (a_cons (e_var rfl (a_cons (e_var rfl (a_cons (e_var rfl (a_nil ⟨s, rs, ts, cs, rfl, so, po, co, hl, fun R' eR' => ?_⟩)))))))))))))
  obtain rfl : R' = R := eR'.trans eR.symm
  refine a_nil (c_repr sh (e_cb (a_cons (e_var rfl (a_nil (c_repr sh (r_ne rfl ⟨_, rfl, fun z => absurd z (by simp [eqD]), fun _ => s_next ?_⟩)))))))
  refine s_if (t_test (e_op (e_cb (a_cons (e_callK (a_cons (e_var rfl (a_cons (e_var rfl (a_cons (e_var rfl (a_nil ⟨rfl, s, rs, ts, cs, rfl, so, po, co, hl, fun R2 eR2 => ?_⟩))))))))))))
  obtain rfl : R2 = R' := eR2.trans eR.symm
  exact a_nil (c_repr sh (e_cb (a_cons (e_var rfl (a_nil (c_repr sh (r_ne rfl ⟨_, rfl, fun z => absurd z (by simp [eqD]), fun _ => s_next ⟨eas, _, _, _, _, _, _, _, _, _, _, _, rfl⟩⟩)))))))
/-- the law's own promise, from a plain list of the script -/
theorem spLaw_of {Pw : Addr} (hT : Tb.T (K := K) = [(Pw, lamQ)]) {H : Hp} {a : Addr} {ns : List Int} (hl : ns.length ≤ 63) (hP : H Pw = some (.tbl #[])) (hS : SqL K H a (ns.map V.int)) : spA K spLawA [.ref a] H (fun v _ => v = .bl true) fun _ _ _ => False := by
  have of0 : ∀ b, AH0.Off b := fun b => ⟨rfl, rfl⟩
  have hS' : SqL K (Fz AH0 H) a (ns.map V.int) := by
    rcases hS with (h | ⟨o, h⟩) | h
    · exact .inl (.inl (Fz_to (of0 _) h fun q z => nomatch z))
    · exact .inl (.inr ⟨o, Fz_to (of0 _) h fun q z => nomatch z⟩)
    · exact .inr h
  refine ⟨Fz AH0 H, AH0, [.scr ns], fun x _ => x = .dat (.bool true), ⟨Same.refl _, fun p as z => (by cases z), .nil, by rw [hT]; exact fun p hp => by rw [List.mem_singleton.mp hp]; exact TabS.nil hP, fun p u z => (by cases z)⟩, .cons (.scr hS') .nil, ⟨ns, rfl, hl, fun _ => rfl⟩, fun x v Ω' H' hx _ hv => ?_⟩
  subst hx
  cases hv with | dat hv =>
    cases hv
    rfl
end
end K38

set_option Elab.async false
set_option linter.all false
set_option maxRecDepth 100000
set_option maxHeartbeats 4000000
namespace K38
open PySem PySem.Spec PyProof.Rows L2 Dat LamX NdefX Clo
theorem fng_ok {P : Program} {w : World} {K : PySem.W.Frag} {mg : Str → Option Value} {base : Heap} {k : Nat} {f : Addr} {fd : FuncData} {ps : List Str} {sp : Sp} (F : FnOk P w K mg base CX0 k f fd ps sp) : Grd.FnG P w K mg base CX0 k f fd ps sp :=
  ⟨F.len, fun A outer s H args us vs Q E hr _ e0 hb r h => F.run A outer s H args us vs Q E hr e0 hb r h⟩
theorem defAt_mk {h : Heap} {K : PySem.W.Frag} {mg : Str → Option Value} {x : Str} {st : Stmt} {ps : List Str} {f : Addr} {oc : Value} {od an : Option Addr} {osl : Array (Option Value)} {kV doc pm cdv ct : Value} (X : K.In h) (G : h.Ns mainGlobals mg)
    (a : PySem.W.nsIn K mainGlobals x = some (some (.ref f))) (l : K.lookup f = some ⟨oc, od, .func (PySem.W.fnOf x x (defArgs st) (defBody st) (defScope st) .none kV doc pm an cdv ct), osl⟩) (c : PySem.W.codeIn K cdv x = true) (k : PySem.W.keepIn K (.ref f) = true)
    (hb : ∀ (kV doc pm : Value) (an : Option Addr) (cdv ct : Value) (us : List Value), us.length = ps.length → bindArgs (PySem.W.fnOf x x (defArgs st) (defBody st) (defScope st) .none kV doc pm an cdv ct) ⟨us, []⟩ = pure (ps.zip us)) :
    DefAt K mg x st ps [] f (PySem.W.fnOf x x (defArgs st) (defBody st) (defScope st) .none kV doc pm an cdv ct) :=
  ⟨fun_mk l c k, PySem.W.mg_of X G a, (fun_mk l c k).binds hb⟩
theorem all_mk {l : PySem.W.OpenLaw} {w : World} {K : PySem.W.Frag} {h : Heap} {mg : Str → Option Value} {fa cw Pw : Addr} (X : K.In h) (G : h.Ns mainGlobals mg) (hfa : mg "law" = some (.ref fa))
    {f_fitting_row : Addr} {oc_fitting_row : Value} {od_fitting_row an_fitting_row : Option Addr} {sl_fitting_row : Array (Option Value)} {kV_fitting_row dc_fitting_row pm_fitting_row cd_fitting_row ct_fitting_row : Value}
    (a_fitting_row : PySem.W.nsIn K mainGlobals "fitting_row" = some (some (.ref f_fitting_row))) (l_fitting_row : K.lookup f_fitting_row = some ⟨oc_fitting_row, od_fitting_row, .func (PySem.W.fnOf "fitting_row" "fitting_row" (defArgs s_fitting_row) (defBody s_fitting_row) (defScope s_fitting_row) .none kV_fitting_row dc_fitting_row pm_fitting_row an_fitting_row cd_fitting_row ct_fitting_row), sl_fitting_row⟩) (c_fitting_row : PySem.W.codeIn K cd_fitting_row "fitting_row" = true) (k_fitting_row : PySem.W.keepIn K (.ref f_fitting_row) = true)
    {f_within : Addr} {oc_within : Value} {od_within an_within : Option Addr} {sl_within : Array (Option Value)} {kV_within dc_within pm_within cd_within ct_within : Value}
    (a_within : PySem.W.nsIn K mainGlobals "within" = some (some (.ref f_within))) (l_within : K.lookup f_within = some ⟨oc_within, od_within, .func (PySem.W.fnOf "within" "within" (defArgs s_within) (defBody s_within) (defScope s_within) .none kV_within dc_within pm_within an_within cd_within ct_within), sl_within⟩) (c_within : PySem.W.codeIn K cd_within "within" = true) (k_within : PySem.W.keepIn K (.ref f_within) = true)
    {f_come_in : Addr} {oc_come_in : Value} {od_come_in an_come_in : Option Addr} {sl_come_in : Array (Option Value)} {kV_come_in dc_come_in pm_come_in cd_come_in ct_come_in : Value}
    (a_come_in : PySem.W.nsIn K mainGlobals "come_in" = some (some (.ref f_come_in))) (l_come_in : K.lookup f_come_in = some ⟨oc_come_in, od_come_in, .func (PySem.W.fnOf "come_in" "come_in" (defArgs s_come_in) (defBody s_come_in) (defScope s_come_in) .none kV_come_in dc_come_in pm_come_in an_come_in cd_come_in ct_come_in), sl_come_in⟩) (c_come_in : PySem.W.codeIn K cd_come_in "come_in" = true) (k_come_in : PySem.W.keepIn K (.ref f_come_in) = true)
    {f_bench_deeds : Addr} {oc_bench_deeds : Value} {od_bench_deeds an_bench_deeds : Option Addr} {sl_bench_deeds : Array (Option Value)} {kV_bench_deeds dc_bench_deeds pm_bench_deeds cd_bench_deeds ct_bench_deeds : Value}
    (a_bench_deeds : PySem.W.nsIn K mainGlobals "bench_deeds" = some (some (.ref f_bench_deeds))) (l_bench_deeds : K.lookup f_bench_deeds = some ⟨oc_bench_deeds, od_bench_deeds, .func (PySem.W.fnOf "bench_deeds" "bench_deeds" (defArgs s_bench_deeds) (defBody s_bench_deeds) (defScope s_bench_deeds) .none kV_bench_deeds dc_bench_deeds pm_bench_deeds an_bench_deeds cd_bench_deeds ct_bench_deeds), sl_bench_deeds⟩) (c_bench_deeds : PySem.W.codeIn K cd_bench_deeds "bench_deeds" = true) (k_bench_deeds : PySem.W.keepIn K (.ref f_bench_deeds) = true)
    {f_fill_bench : Addr} {oc_fill_bench : Value} {od_fill_bench an_fill_bench : Option Addr} {sl_fill_bench : Array (Option Value)} {kV_fill_bench dc_fill_bench pm_fill_bench cd_fill_bench ct_fill_bench : Value}
    (a_fill_bench : PySem.W.nsIn K mainGlobals "fill_bench" = some (some (.ref f_fill_bench))) (l_fill_bench : K.lookup f_fill_bench = some ⟨oc_fill_bench, od_fill_bench, .func (PySem.W.fnOf "fill_bench" "fill_bench" (defArgs s_fill_bench) (defBody s_fill_bench) (defScope s_fill_bench) .none kV_fill_bench dc_fill_bench pm_fill_bench an_fill_bench cd_fill_bench ct_fill_bench), sl_fill_bench⟩) (c_fill_bench : PySem.W.codeIn K cd_fill_bench "fill_bench" = true) (k_fill_bench : PySem.W.keepIn K (.ref f_fill_bench) = true)
    {f_bench_beat : Addr} {oc_bench_beat : Value} {od_bench_beat an_bench_beat : Option Addr} {sl_bench_beat : Array (Option Value)} {kV_bench_beat dc_bench_beat pm_bench_beat cd_bench_beat ct_bench_beat : Value}
    (a_bench_beat : PySem.W.nsIn K mainGlobals "bench_beat" = some (some (.ref f_bench_beat))) (l_bench_beat : K.lookup f_bench_beat = some ⟨oc_bench_beat, od_bench_beat, .func (PySem.W.fnOf "bench_beat" "bench_beat" (defArgs s_bench_beat) (defBody s_bench_beat) (defScope s_bench_beat) .none kV_bench_beat dc_bench_beat pm_bench_beat an_bench_beat cd_bench_beat ct_bench_beat), sl_bench_beat⟩) (c_bench_beat : PySem.W.codeIn K cd_bench_beat "bench_beat" = true) (k_bench_beat : PySem.W.keepIn K (.ref f_bench_beat) = true)
    {f_seated : Addr} {oc_seated : Value} {od_seated an_seated : Option Addr} {sl_seated : Array (Option Value)} {kV_seated dc_seated pm_seated cd_seated ct_seated : Value}
    (a_seated : PySem.W.nsIn K mainGlobals "seated" = some (some (.ref f_seated))) (l_seated : K.lookup f_seated = some ⟨oc_seated, od_seated, .func (PySem.W.fnOf "seated" "seated" (defArgs s_seated) (defBody s_seated) (defScope s_seated) .none kV_seated dc_seated pm_seated an_seated cd_seated ct_seated), sl_seated⟩) (c_seated : PySem.W.codeIn K cd_seated "seated" = true) (k_seated : PySem.W.keepIn K (.ref f_seated) = true)
    {f_portions_open : Addr} {oc_portions_open : Value} {od_portions_open an_portions_open : Option Addr} {sl_portions_open : Array (Option Value)} {kV_portions_open dc_portions_open pm_portions_open cd_portions_open ct_portions_open : Value}
    (a_portions_open : PySem.W.nsIn K mainGlobals "portions_open" = some (some (.ref f_portions_open))) (l_portions_open : K.lookup f_portions_open = some ⟨oc_portions_open, od_portions_open, .func (PySem.W.fnOf "portions_open" "portions_open" (defArgs s_portions_open) (defBody s_portions_open) (defScope s_portions_open) .none kV_portions_open dc_portions_open pm_portions_open an_portions_open cd_portions_open ct_portions_open), sl_portions_open⟩) (c_portions_open : PySem.W.codeIn K cd_portions_open "portions_open" = true) (k_portions_open : PySem.W.keepIn K (.ref f_portions_open) = true)
    {f_tub_deeds : Addr} {oc_tub_deeds : Value} {od_tub_deeds an_tub_deeds : Option Addr} {sl_tub_deeds : Array (Option Value)} {kV_tub_deeds dc_tub_deeds pm_tub_deeds cd_tub_deeds ct_tub_deeds : Value}
    (a_tub_deeds : PySem.W.nsIn K mainGlobals "tub_deeds" = some (some (.ref f_tub_deeds))) (l_tub_deeds : K.lookup f_tub_deeds = some ⟨oc_tub_deeds, od_tub_deeds, .func (PySem.W.fnOf "tub_deeds" "tub_deeds" (defArgs s_tub_deeds) (defBody s_tub_deeds) (defScope s_tub_deeds) .none kV_tub_deeds dc_tub_deeds pm_tub_deeds an_tub_deeds cd_tub_deeds ct_tub_deeds), sl_tub_deeds⟩) (c_tub_deeds : PySem.W.codeIn K cd_tub_deeds "tub_deeds" = true) (k_tub_deeds : PySem.W.keepIn K (.ref f_tub_deeds) = true)
    {f_with_tub : Addr} {oc_with_tub : Value} {od_with_tub an_with_tub : Option Addr} {sl_with_tub : Array (Option Value)} {kV_with_tub dc_with_tub pm_with_tub cd_with_tub ct_with_tub : Value}
    (a_with_tub : PySem.W.nsIn K mainGlobals "with_tub" = some (some (.ref f_with_tub))) (l_with_tub : K.lookup f_with_tub = some ⟨oc_with_tub, od_with_tub, .func (PySem.W.fnOf "with_tub" "with_tub" (defArgs s_with_tub) (defBody s_with_tub) (defScope s_with_tub) .none kV_with_tub dc_with_tub pm_with_tub an_with_tub cd_with_tub ct_with_tub), sl_with_tub⟩) (c_with_tub : PySem.W.codeIn K cd_with_tub "with_tub" = true) (k_with_tub : PySem.W.keepIn K (.ref f_with_tub) = true)
    {f_open_tubs : Addr} {oc_open_tubs : Value} {od_open_tubs an_open_tubs : Option Addr} {sl_open_tubs : Array (Option Value)} {kV_open_tubs dc_open_tubs pm_open_tubs cd_open_tubs ct_open_tubs : Value}
    (a_open_tubs : PySem.W.nsIn K mainGlobals "open_tubs" = some (some (.ref f_open_tubs))) (l_open_tubs : K.lookup f_open_tubs = some ⟨oc_open_tubs, od_open_tubs, .func (PySem.W.fnOf "open_tubs" "open_tubs" (defArgs s_open_tubs) (defBody s_open_tubs) (defScope s_open_tubs) .none kV_open_tubs dc_open_tubs pm_open_tubs an_open_tubs cd_open_tubs ct_open_tubs), sl_open_tubs⟩) (c_open_tubs : PySem.W.codeIn K cd_open_tubs "open_tubs" = true) (k_open_tubs : PySem.W.keepIn K (.ref f_open_tubs) = true)
    {f_eaten_of : Addr} {oc_eaten_of : Value} {od_eaten_of an_eaten_of : Option Addr} {sl_eaten_of : Array (Option Value)} {kV_eaten_of dc_eaten_of pm_eaten_of cd_eaten_of ct_eaten_of : Value}
    (a_eaten_of : PySem.W.nsIn K mainGlobals "eaten_of" = some (some (.ref f_eaten_of))) (l_eaten_of : K.lookup f_eaten_of = some ⟨oc_eaten_of, od_eaten_of, .func (PySem.W.fnOf "eaten_of" "eaten_of" (defArgs s_eaten_of) (defBody s_eaten_of) (defScope s_eaten_of) .none kV_eaten_of dc_eaten_of pm_eaten_of an_eaten_of cd_eaten_of ct_eaten_of), sl_eaten_of⟩) (c_eaten_of : PySem.W.codeIn K cd_eaten_of "eaten_of" = true) (k_eaten_of : PySem.W.keepIn K (.ref f_eaten_of) = true)
    {f_end_beat : Addr} {oc_end_beat : Value} {od_end_beat an_end_beat : Option Addr} {sl_end_beat : Array (Option Value)} {kV_end_beat dc_end_beat pm_end_beat cd_end_beat ct_end_beat : Value}
    (a_end_beat : PySem.W.nsIn K mainGlobals "end_beat" = some (some (.ref f_end_beat))) (l_end_beat : K.lookup f_end_beat = some ⟨oc_end_beat, od_end_beat, .func (PySem.W.fnOf "end_beat" "end_beat" (defArgs s_end_beat) (defBody s_end_beat) (defScope s_end_beat) .none kV_end_beat dc_end_beat pm_end_beat an_end_beat cd_end_beat ct_end_beat), sl_end_beat⟩) (c_end_beat : PySem.W.codeIn K cd_end_beat "end_beat" = true) (k_end_beat : PySem.W.keepIn K (.ref f_end_beat) = true)
    {f_tub_beat : Addr} {oc_tub_beat : Value} {od_tub_beat an_tub_beat : Option Addr} {sl_tub_beat : Array (Option Value)} {kV_tub_beat dc_tub_beat pm_tub_beat cd_tub_beat ct_tub_beat : Value}
    (a_tub_beat : PySem.W.nsIn K mainGlobals "tub_beat" = some (some (.ref f_tub_beat))) (l_tub_beat : K.lookup f_tub_beat = some ⟨oc_tub_beat, od_tub_beat, .func (PySem.W.fnOf "tub_beat" "tub_beat" (defArgs s_tub_beat) (defBody s_tub_beat) (defScope s_tub_beat) .none kV_tub_beat dc_tub_beat pm_tub_beat an_tub_beat cd_tub_beat ct_tub_beat), sl_tub_beat⟩) (c_tub_beat : PySem.W.codeIn K cd_tub_beat "tub_beat" = true) (k_tub_beat : PySem.W.keepIn K (.ref f_tub_beat) = true)
    {f_tubs_cost : Addr} {oc_tubs_cost : Value} {od_tubs_cost an_tubs_cost : Option Addr} {sl_tubs_cost : Array (Option Value)} {kV_tubs_cost dc_tubs_cost pm_tubs_cost cd_tubs_cost ct_tubs_cost : Value}
    (a_tubs_cost : PySem.W.nsIn K mainGlobals "tubs_cost" = some (some (.ref f_tubs_cost))) (l_tubs_cost : K.lookup f_tubs_cost = some ⟨oc_tubs_cost, od_tubs_cost, .func (PySem.W.fnOf "tubs_cost" "tubs_cost" (defArgs s_tubs_cost) (defBody s_tubs_cost) (defScope s_tubs_cost) .none kV_tubs_cost dc_tubs_cost pm_tubs_cost an_tubs_cost cd_tubs_cost ct_tubs_cost), sl_tubs_cost⟩) (c_tubs_cost : PySem.W.codeIn K cd_tubs_cost "tubs_cost" = true) (k_tubs_cost : PySem.W.keepIn K (.ref f_tubs_cost) = true)
    {f_is_whole : Addr} {oc_is_whole : Value} {od_is_whole an_is_whole : Option Addr} {sl_is_whole : Array (Option Value)} {kV_is_whole dc_is_whole pm_is_whole cd_is_whole ct_is_whole : Value}
    (a_is_whole : PySem.W.nsIn K mainGlobals "is_whole" = some (some (.ref f_is_whole))) (l_is_whole : K.lookup f_is_whole = some ⟨oc_is_whole, od_is_whole, .func (PySem.W.fnOf "is_whole" "is_whole" (defArgs s_is_whole) (defBody s_is_whole) (defScope s_is_whole) .none kV_is_whole dc_is_whole pm_is_whole an_is_whole cd_is_whole ct_is_whole), sl_is_whole⟩) (c_is_whole : PySem.W.codeIn K cd_is_whole "is_whole" = true) (k_is_whole : PySem.W.keepIn K (.ref f_is_whole) = true)
    {f_is_whole_in : Addr} {oc_is_whole_in : Value} {od_is_whole_in an_is_whole_in : Option Addr} {sl_is_whole_in : Array (Option Value)} {kV_is_whole_in dc_is_whole_in pm_is_whole_in cd_is_whole_in ct_is_whole_in : Value}
    (a_is_whole_in : PySem.W.nsIn K mainGlobals "is_whole_in" = some (some (.ref f_is_whole_in))) (l_is_whole_in : K.lookup f_is_whole_in = some ⟨oc_is_whole_in, od_is_whole_in, .func (PySem.W.fnOf "is_whole_in" "is_whole_in" (defArgs s_is_whole_in) (defBody s_is_whole_in) (defScope s_is_whole_in) .none kV_is_whole_in dc_is_whole_in pm_is_whole_in an_is_whole_in cd_is_whole_in ct_is_whole_in), sl_is_whole_in⟩) (c_is_whole_in : PySem.W.codeIn K cd_is_whole_in "is_whole_in" = true) (k_is_whole_in : PySem.W.keepIn K (.ref f_is_whole_in) = true)
    {f_is_pair : Addr} {oc_is_pair : Value} {od_is_pair an_is_pair : Option Addr} {sl_is_pair : Array (Option Value)} {kV_is_pair dc_is_pair pm_is_pair cd_is_pair ct_is_pair : Value}
    (a_is_pair : PySem.W.nsIn K mainGlobals "is_pair" = some (some (.ref f_is_pair))) (l_is_pair : K.lookup f_is_pair = some ⟨oc_is_pair, od_is_pair, .func (PySem.W.fnOf "is_pair" "is_pair" (defArgs s_is_pair) (defBody s_is_pair) (defScope s_is_pair) .none kV_is_pair dc_is_pair pm_is_pair an_is_pair cd_is_pair ct_is_pair), sl_is_pair⟩) (c_is_pair : PySem.W.codeIn K cd_is_pair "is_pair" = true) (k_is_pair : PySem.W.keepIn K (.ref f_is_pair) = true)
    {f_fault_in : Addr} {oc_fault_in : Value} {od_fault_in an_fault_in : Option Addr} {sl_fault_in : Array (Option Value)} {kV_fault_in dc_fault_in pm_fault_in cd_fault_in ct_fault_in : Value}
    (a_fault_in : PySem.W.nsIn K mainGlobals "fault_in" = some (some (.ref f_fault_in))) (l_fault_in : K.lookup f_fault_in = some ⟨oc_fault_in, od_fault_in, .func (PySem.W.fnOf "fault_in" "fault_in" (defArgs s_fault_in) (defBody s_fault_in) (defScope s_fault_in) .none kV_fault_in dc_fault_in pm_fault_in an_fault_in cd_fault_in ct_fault_in), sl_fault_in⟩) (c_fault_in : PySem.W.codeIn K cd_fault_in "fault_in" = true) (k_fault_in : PySem.W.keepIn K (.ref f_fault_in) = true)
    {f_is_setup : Addr} {oc_is_setup : Value} {od_is_setup an_is_setup : Option Addr} {sl_is_setup : Array (Option Value)} {kV_is_setup dc_is_setup pm_is_setup cd_is_setup ct_is_setup : Value}
    (a_is_setup : PySem.W.nsIn K mainGlobals "is_setup" = some (some (.ref f_is_setup))) (l_is_setup : K.lookup f_is_setup = some ⟨oc_is_setup, od_is_setup, .func (PySem.W.fnOf "is_setup" "is_setup" (defArgs s_is_setup) (defBody s_is_setup) (defScope s_is_setup) .none kV_is_setup dc_is_setup pm_is_setup an_is_setup cd_is_setup ct_is_setup), sl_is_setup⟩) (c_is_setup : PySem.W.codeIn K cd_is_setup "is_setup" = true) (k_is_setup : PySem.W.keepIn K (.ref f_is_setup) = true)
    {f_is_choice : Addr} {oc_is_choice : Value} {od_is_choice an_is_choice : Option Addr} {sl_is_choice : Array (Option Value)} {kV_is_choice dc_is_choice pm_is_choice cd_is_choice ct_is_choice : Value}
    (a_is_choice : PySem.W.nsIn K mainGlobals "is_choice" = some (some (.ref f_is_choice))) (l_is_choice : K.lookup f_is_choice = some ⟨oc_is_choice, od_is_choice, .func (PySem.W.fnOf "is_choice" "is_choice" (defArgs s_is_choice) (defBody s_is_choice) (defScope s_is_choice) .none kV_is_choice dc_is_choice pm_is_choice an_is_choice cd_is_choice ct_is_choice), sl_is_choice⟩) (c_is_choice : PySem.W.codeIn K cd_is_choice "is_choice" = true) (k_is_choice : PySem.W.keepIn K (.ref f_is_choice) = true)
    {f_check_setup : Addr} {oc_check_setup : Value} {od_check_setup an_check_setup : Option Addr} {sl_check_setup : Array (Option Value)} {kV_check_setup dc_check_setup pm_check_setup cd_check_setup ct_check_setup : Value}
    (a_check_setup : PySem.W.nsIn K mainGlobals "check_setup" = some (some (.ref f_check_setup))) (l_check_setup : K.lookup f_check_setup = some ⟨oc_check_setup, od_check_setup, .func (PySem.W.fnOf "check_setup" "check_setup" (defArgs s_check_setup) (defBody s_check_setup) (defScope s_check_setup) .none kV_check_setup dc_check_setup pm_check_setup an_check_setup cd_check_setup ct_check_setup), sl_check_setup⟩) (c_check_setup : PySem.W.codeIn K cd_check_setup "check_setup" = true) (k_check_setup : PySem.W.keepIn K (.ref f_check_setup) = true)
    {f_is_comers : Addr} {oc_is_comers : Value} {od_is_comers an_is_comers : Option Addr} {sl_is_comers : Array (Option Value)} {kV_is_comers dc_is_comers pm_is_comers cd_is_comers ct_is_comers : Value}
    (a_is_comers : PySem.W.nsIn K mainGlobals "is_comers" = some (some (.ref f_is_comers))) (l_is_comers : K.lookup f_is_comers = some ⟨oc_is_comers, od_is_comers, .func (PySem.W.fnOf "is_comers" "is_comers" (defArgs s_is_comers) (defBody s_is_comers) (defScope s_is_comers) .none kV_is_comers dc_is_comers pm_is_comers an_is_comers cd_is_comers ct_is_comers), sl_is_comers⟩) (c_is_comers : PySem.W.codeIn K cd_is_comers "is_comers" = true) (k_is_comers : PySem.W.keepIn K (.ref f_is_comers) = true)
    {f_check_row : Addr} {oc_check_row : Value} {od_check_row an_check_row : Option Addr} {sl_check_row : Array (Option Value)} {kV_check_row dc_check_row pm_check_row ct_check_row : Value} {p_DFL : Addr}
    (a_check_row : PySem.W.nsIn K mainGlobals "check_row" = some (some (.ref f_check_row))) (l_check_row : K.lookup f_check_row = some ⟨oc_check_row, od_check_row, .func (PySem.W.fnOf "check_row" "check_row" (defArgs s_check_row) (defBody s_check_row) (defScope s_check_row) (.ref p_DFL) kV_check_row dc_check_row pm_check_row an_check_row (.ref cw) ct_check_row), sl_check_row⟩) (c_check_row : PySem.W.codeIn K (.ref cw) "check_row" = true) (k_check_row : PySem.W.keepIn K (.ref f_check_row) = true)
    {f_is_half : Addr} {oc_is_half : Value} {od_is_half an_is_half : Option Addr} {sl_is_half : Array (Option Value)} {kV_is_half dc_is_half pm_is_half cd_is_half ct_is_half : Value}
    (a_is_half : PySem.W.nsIn K mainGlobals "is_half" = some (some (.ref f_is_half))) (l_is_half : K.lookup f_is_half = some ⟨oc_is_half, od_is_half, .func (PySem.W.fnOf "is_half" "is_half" (defArgs s_is_half) (defBody s_is_half) (defScope s_is_half) .none kV_is_half dc_is_half pm_is_half an_is_half cd_is_half ct_is_half), sl_is_half⟩) (c_is_half : PySem.W.codeIn K cd_is_half "is_half" = true) (k_is_half : PySem.W.keepIn K (.ref f_is_half) = true)
    {f_is_rule_row : Addr} {oc_is_rule_row : Value} {od_is_rule_row an_is_rule_row : Option Addr} {sl_is_rule_row : Array (Option Value)} {kV_is_rule_row dc_is_rule_row pm_is_rule_row cd_is_rule_row ct_is_rule_row : Value}
    (a_is_rule_row : PySem.W.nsIn K mainGlobals "is_rule_row" = some (some (.ref f_is_rule_row))) (l_is_rule_row : K.lookup f_is_rule_row = some ⟨oc_is_rule_row, od_is_rule_row, .func (PySem.W.fnOf "is_rule_row" "is_rule_row" (defArgs s_is_rule_row) (defBody s_is_rule_row) (defScope s_is_rule_row) .none kV_is_rule_row dc_is_rule_row pm_is_rule_row an_is_rule_row cd_is_rule_row ct_is_rule_row), sl_is_rule_row⟩) (c_is_rule_row : PySem.W.codeIn K cd_is_rule_row "is_rule_row" = true) (k_is_rule_row : PySem.W.keepIn K (.ref f_is_rule_row) = true)
    {f_is_span : Addr} {oc_is_span : Value} {od_is_span an_is_span : Option Addr} {sl_is_span : Array (Option Value)} {kV_is_span dc_is_span pm_is_span cd_is_span ct_is_span : Value}
    (a_is_span : PySem.W.nsIn K mainGlobals "is_span" = some (some (.ref f_is_span))) (l_is_span : K.lookup f_is_span = some ⟨oc_is_span, od_is_span, .func (PySem.W.fnOf "is_span" "is_span" (defArgs s_is_span) (defBody s_is_span) (defScope s_is_span) .none kV_is_span dc_is_span pm_is_span an_is_span cd_is_span ct_is_span), sl_is_span⟩) (c_is_span : PySem.W.codeIn K cd_is_span "is_span" = true) (k_is_span : PySem.W.keepIn K (.ref f_is_span) = true)
    {f_is_seats : Addr} {oc_is_seats : Value} {od_is_seats an_is_seats : Option Addr} {sl_is_seats : Array (Option Value)} {kV_is_seats dc_is_seats pm_is_seats cd_is_seats ct_is_seats : Value}
    (a_is_seats : PySem.W.nsIn K mainGlobals "is_seats" = some (some (.ref f_is_seats))) (l_is_seats : K.lookup f_is_seats = some ⟨oc_is_seats, od_is_seats, .func (PySem.W.fnOf "is_seats" "is_seats" (defArgs s_is_seats) (defBody s_is_seats) (defScope s_is_seats) .none kV_is_seats dc_is_seats pm_is_seats an_is_seats cd_is_seats ct_is_seats), sl_is_seats⟩) (c_is_seats : PySem.W.codeIn K cd_is_seats "is_seats" = true) (k_is_seats : PySem.W.keepIn K (.ref f_is_seats) = true)
    {f_is_tubs : Addr} {oc_is_tubs : Value} {od_is_tubs an_is_tubs : Option Addr} {sl_is_tubs : Array (Option Value)} {kV_is_tubs dc_is_tubs pm_is_tubs cd_is_tubs ct_is_tubs : Value}
    (a_is_tubs : PySem.W.nsIn K mainGlobals "is_tubs" = some (some (.ref f_is_tubs))) (l_is_tubs : K.lookup f_is_tubs = some ⟨oc_is_tubs, od_is_tubs, .func (PySem.W.fnOf "is_tubs" "is_tubs" (defArgs s_is_tubs) (defBody s_is_tubs) (defScope s_is_tubs) .none kV_is_tubs dc_is_tubs pm_is_tubs an_is_tubs cd_is_tubs ct_is_tubs), sl_is_tubs⟩) (c_is_tubs : PySem.W.codeIn K cd_is_tubs "is_tubs" = true) (k_is_tubs : PySem.W.keepIn K (.ref f_is_tubs) = true)
    {f_is_rule : Addr} {oc_is_rule : Value} {od_is_rule an_is_rule : Option Addr} {sl_is_rule : Array (Option Value)} {kV_is_rule dc_is_rule pm_is_rule cd_is_rule ct_is_rule : Value}
    (a_is_rule : PySem.W.nsIn K mainGlobals "is_rule" = some (some (.ref f_is_rule))) (l_is_rule : K.lookup f_is_rule = some ⟨oc_is_rule, od_is_rule, .func (PySem.W.fnOf "is_rule" "is_rule" (defArgs s_is_rule) (defBody s_is_rule) (defScope s_is_rule) .none kV_is_rule dc_is_rule pm_is_rule an_is_rule cd_is_rule ct_is_rule), sl_is_rule⟩) (c_is_rule : PySem.W.codeIn K cd_is_rule "is_rule" = true) (k_is_rule : PySem.W.keepIn K (.ref f_is_rule) = true)
    {f_check_rule : Addr} {oc_check_rule : Value} {od_check_rule an_check_rule : Option Addr} {sl_check_rule : Array (Option Value)} {kV_check_rule dc_check_rule pm_check_rule cd_check_rule ct_check_rule : Value}
    (a_check_rule : PySem.W.nsIn K mainGlobals "check_rule" = some (some (.ref f_check_rule))) (l_check_rule : K.lookup f_check_rule = some ⟨oc_check_rule, od_check_rule, .func (PySem.W.fnOf "check_rule" "check_rule" (defArgs s_check_rule) (defBody s_check_rule) (defScope s_check_rule) .none kV_check_rule dc_check_rule pm_check_rule an_check_rule cd_check_rule ct_check_rule), sl_check_rule⟩) (c_check_rule : PySem.W.codeIn K cd_check_rule "check_rule" = true) (k_check_rule : PySem.W.keepIn K (.ref f_check_rule) = true)
    {f_check_what : Addr} {oc_check_what : Value} {od_check_what an_check_what : Option Addr} {sl_check_what : Array (Option Value)} {kV_check_what dc_check_what pm_check_what cd_check_what ct_check_what : Value}
    (a_check_what : PySem.W.nsIn K mainGlobals "check_what" = some (some (.ref f_check_what))) (l_check_what : K.lookup f_check_what = some ⟨oc_check_what, od_check_what, .func (PySem.W.fnOf "check_what" "check_what" (defArgs s_check_what) (defBody s_check_what) (defScope s_check_what) .none kV_check_what dc_check_what pm_check_what an_check_what cd_check_what ct_check_what), sl_check_what⟩) (c_check_what : PySem.W.codeIn K cd_check_what "check_what" = true) (k_check_what : PySem.W.keepIn K (.ref f_check_what) = true)
    {f_house_beat : Addr} {oc_house_beat : Value} {od_house_beat an_house_beat : Option Addr} {sl_house_beat : Array (Option Value)} {kV_house_beat dc_house_beat pm_house_beat cd_house_beat ct_house_beat : Value}
    (a_house_beat : PySem.W.nsIn K mainGlobals "house_beat" = some (some (.ref f_house_beat))) (l_house_beat : K.lookup f_house_beat = some ⟨oc_house_beat, od_house_beat, .func (PySem.W.fnOf "house_beat" "house_beat" (defArgs s_house_beat) (defBody s_house_beat) (defScope s_house_beat) .none kV_house_beat dc_house_beat pm_house_beat an_house_beat cd_house_beat ct_house_beat), sl_house_beat⟩) (c_house_beat : PySem.W.codeIn K cd_house_beat "house_beat" = true) (k_house_beat : PySem.W.keepIn K (.ref f_house_beat) = true)
    {f_run_house : Addr} {oc_run_house : Value} {od_run_house an_run_house : Option Addr} {sl_run_house : Array (Option Value)} {kV_run_house dc_run_house pm_run_house ct_run_house : Value} {p_DFLr cwr : Addr}
    (a_run_house : PySem.W.nsIn K mainGlobals "run_house" = some (some (.ref f_run_house))) (l_run_house : K.lookup f_run_house = some ⟨oc_run_house, od_run_house, .func (PySem.W.fnOf "run_house" "run_house" (defArgs s_run_house) (defBody s_run_house) (defScope s_run_house) (.ref p_DFLr) kV_run_house dc_run_house pm_run_house an_run_house (.ref cwr) ct_run_house), sl_run_house⟩) (c_run_house : PySem.W.codeIn K (.ref cwr) "run_house" = true) (k_run_house : PySem.W.keepIn K (.ref f_run_house) = true)
    {f_check_house_row : Addr} {oc_check_house_row : Value} {od_check_house_row an_check_house_row : Option Addr} {sl_check_house_row : Array (Option Value)} {kV_check_house_row dc_check_house_row pm_check_house_row cd_check_house_row ct_check_house_row : Value}
    (a_check_house_row : PySem.W.nsIn K mainGlobals "check_house_row" = some (some (.ref f_check_house_row))) (l_check_house_row : K.lookup f_check_house_row = some ⟨oc_check_house_row, od_check_house_row, .func (PySem.W.fnOf "check_house_row" "check_house_row" (defArgs s_check_house_row) (defBody s_check_house_row) (defScope s_check_house_row) .none kV_check_house_row dc_check_house_row pm_check_house_row an_check_house_row cd_check_house_row ct_check_house_row), sl_check_house_row⟩) (c_check_house_row : PySem.W.codeIn K cd_check_house_row "check_house_row" = true) (k_check_house_row : PySem.W.keepIn K (.ref f_check_house_row) = true)
    {f_bills_of : Addr} {oc_bills_of : Value} {od_bills_of an_bills_of : Option Addr} {sl_bills_of : Array (Option Value)} {kV_bills_of dc_bills_of pm_bills_of cd_bills_of ct_bills_of : Value}
    (a_bills_of : PySem.W.nsIn K mainGlobals "bills_of" = some (some (.ref f_bills_of))) (l_bills_of : K.lookup f_bills_of = some ⟨oc_bills_of, od_bills_of, .func (PySem.W.fnOf "bills_of" "bills_of" (defArgs s_bills_of) (defBody s_bills_of) (defScope s_bills_of) .none kV_bills_of dc_bills_of pm_bills_of an_bills_of cd_bills_of ct_bills_of), sl_bills_of⟩) (c_bills_of : PySem.W.codeIn K cd_bills_of "bills_of" = true) (k_bills_of : PySem.W.keepIn K (.ref f_bills_of) = true)
    {f_is_deed : Addr} {oc_is_deed : Value} {od_is_deed an_is_deed : Option Addr} {sl_is_deed : Array (Option Value)} {kV_is_deed dc_is_deed pm_is_deed cd_is_deed ct_is_deed : Value}
    (a_is_deed : PySem.W.nsIn K mainGlobals "is_deed" = some (some (.ref f_is_deed))) (l_is_deed : K.lookup f_is_deed = some ⟨oc_is_deed, od_is_deed, .func (PySem.W.fnOf "is_deed" "is_deed" (defArgs s_is_deed) (defBody s_is_deed) (defScope s_is_deed) .none kV_is_deed dc_is_deed pm_is_deed an_is_deed cd_is_deed ct_is_deed), sl_is_deed⟩) (c_is_deed : PySem.W.codeIn K cd_is_deed "is_deed" = true) (k_is_deed : PySem.W.keepIn K (.ref f_is_deed) = true)
    {f_is_bill : Addr} {oc_is_bill : Value} {od_is_bill an_is_bill : Option Addr} {sl_is_bill : Array (Option Value)} {kV_is_bill dc_is_bill pm_is_bill cd_is_bill ct_is_bill : Value}
    (a_is_bill : PySem.W.nsIn K mainGlobals "is_bill" = some (some (.ref f_is_bill))) (l_is_bill : K.lookup f_is_bill = some ⟨oc_is_bill, od_is_bill, .func (PySem.W.fnOf "is_bill" "is_bill" (defArgs s_is_bill) (defBody s_is_bill) (defScope s_is_bill) .none kV_is_bill dc_is_bill pm_is_bill an_is_bill cd_is_bill ct_is_bill), sl_is_bill⟩) (c_is_bill : PySem.W.codeIn K cd_is_bill "is_bill" = true) (k_is_bill : PySem.W.keepIn K (.ref f_is_bill) = true)
    {f_count_of : Addr} {oc_count_of : Value} {od_count_of an_count_of : Option Addr} {sl_count_of : Array (Option Value)} {kV_count_of dc_count_of pm_count_of cd_count_of ct_count_of : Value}
    (a_count_of : PySem.W.nsIn K mainGlobals "count_of" = some (some (.ref f_count_of))) (l_count_of : K.lookup f_count_of = some ⟨oc_count_of, od_count_of, .func (PySem.W.fnOf "count_of" "count_of" (defArgs s_count_of) (defBody s_count_of) (defScope s_count_of) .none kV_count_of dc_count_of pm_count_of an_count_of cd_count_of ct_count_of), sl_count_of⟩) (c_count_of : PySem.W.codeIn K cd_count_of "count_of" = true) (k_count_of : PySem.W.keepIn K (.ref f_count_of) = true)
    {f_bill_count : Addr} {oc_bill_count : Value} {od_bill_count an_bill_count : Option Addr} {sl_bill_count : Array (Option Value)} {kV_bill_count dc_bill_count pm_bill_count cd_bill_count ct_bill_count : Value}
    (a_bill_count : PySem.W.nsIn K mainGlobals "bill_count" = some (some (.ref f_bill_count))) (l_bill_count : K.lookup f_bill_count = some ⟨oc_bill_count, od_bill_count, .func (PySem.W.fnOf "bill_count" "bill_count" (defArgs s_bill_count) (defBody s_bill_count) (defScope s_bill_count) .none kV_bill_count dc_bill_count pm_bill_count an_bill_count cd_bill_count ct_bill_count), sl_bill_count⟩) (c_bill_count : PySem.W.codeIn K cd_bill_count "bill_count" = true) (k_bill_count : PySem.W.keepIn K (.ref f_bill_count) = true)
    {f_totals_of : Addr} {oc_totals_of : Value} {od_totals_of an_totals_of : Option Addr} {sl_totals_of : Array (Option Value)} {kV_totals_of dc_totals_of pm_totals_of cd_totals_of ct_totals_of : Value}
    (a_totals_of : PySem.W.nsIn K mainGlobals "totals_of" = some (some (.ref f_totals_of))) (l_totals_of : K.lookup f_totals_of = some ⟨oc_totals_of, od_totals_of, .func (PySem.W.fnOf "totals_of" "totals_of" (defArgs s_totals_of) (defBody s_totals_of) (defScope s_totals_of) .none kV_totals_of dc_totals_of pm_totals_of an_totals_of cd_totals_of ct_totals_of), sl_totals_of⟩) (c_totals_of : PySem.W.codeIn K cd_totals_of "totals_of" = true) (k_totals_of : PySem.W.keepIn K (.ref f_totals_of) = true)
    {f_bill_totals : Addr} {oc_bill_totals : Value} {od_bill_totals an_bill_totals : Option Addr} {sl_bill_totals : Array (Option Value)} {kV_bill_totals dc_bill_totals pm_bill_totals cd_bill_totals ct_bill_totals : Value}
    (a_bill_totals : PySem.W.nsIn K mainGlobals "bill_totals" = some (some (.ref f_bill_totals))) (l_bill_totals : K.lookup f_bill_totals = some ⟨oc_bill_totals, od_bill_totals, .func (PySem.W.fnOf "bill_totals" "bill_totals" (defArgs s_bill_totals) (defBody s_bill_totals) (defScope s_bill_totals) .none kV_bill_totals dc_bill_totals pm_bill_totals an_bill_totals cd_bill_totals ct_bill_totals), sl_bill_totals⟩) (c_bill_totals : PySem.W.codeIn K cd_bill_totals "bill_totals" = true) (k_bill_totals : PySem.W.keepIn K (.ref f_bill_totals) = true)
    {f__law_source : Addr} {oc__law_source : Value} {od__law_source an__law_source : Option Addr} {sl__law_source : Array (Option Value)} {kV__law_source dc__law_source pm__law_source cd__law_source ct__law_source : Value}
    (a__law_source : PySem.W.nsIn K mainGlobals "_law_source" = some (some (.ref f__law_source))) (l__law_source : K.lookup f__law_source = some ⟨oc__law_source, od__law_source, .func (PySem.W.fnOf "_law_source" "_law_source" (defArgs s__law_source) (defBody s__law_source) (defScope s__law_source) .none kV__law_source dc__law_source pm__law_source an__law_source cd__law_source ct__law_source), sl__law_source⟩) (c__law_source : PySem.W.codeIn K cd__law_source "_law_source" = true) (k__law_source : PySem.W.keepIn K (.ref f__law_source) = true)
    {f__law_draw : Addr} {oc__law_draw : Value} {od__law_draw an__law_draw : Option Addr} {sl__law_draw : Array (Option Value)} {kV__law_draw dc__law_draw pm__law_draw cd__law_draw ct__law_draw : Value}
    (a__law_draw : PySem.W.nsIn K mainGlobals "_law_draw" = some (some (.ref f__law_draw))) (l__law_draw : K.lookup f__law_draw = some ⟨oc__law_draw, od__law_draw, .func (PySem.W.fnOf "_law_draw" "_law_draw" (defArgs s__law_draw) (defBody s__law_draw) (defScope s__law_draw) .none kV__law_draw dc__law_draw pm__law_draw an__law_draw cd__law_draw ct__law_draw), sl__law_draw⟩) (c__law_draw : PySem.W.codeIn K cd__law_draw "_law_draw" = true) (k__law_draw : PySem.W.keepIn K (.ref f__law_draw) = true)
    {f__law_span : Addr} {oc__law_span : Value} {od__law_span an__law_span : Option Addr} {sl__law_span : Array (Option Value)} {kV__law_span dc__law_span pm__law_span cd__law_span ct__law_span : Value}
    (a__law_span : PySem.W.nsIn K mainGlobals "_law_span" = some (some (.ref f__law_span))) (l__law_span : K.lookup f__law_span = some ⟨oc__law_span, od__law_span, .func (PySem.W.fnOf "_law_span" "_law_span" (defArgs s__law_span) (defBody s__law_span) (defScope s__law_span) .none kV__law_span dc__law_span pm__law_span an__law_span cd__law_span ct__law_span), sl__law_span⟩) (c__law_span : PySem.W.codeIn K cd__law_span "_law_span" = true) (k__law_span : PySem.W.keepIn K (.ref f__law_span) = true)
    {f__law_rows : Addr} {oc__law_rows : Value} {od__law_rows an__law_rows : Option Addr} {sl__law_rows : Array (Option Value)} {kV__law_rows dc__law_rows pm__law_rows cd__law_rows ct__law_rows : Value}
    (a__law_rows : PySem.W.nsIn K mainGlobals "_law_rows" = some (some (.ref f__law_rows))) (l__law_rows : K.lookup f__law_rows = some ⟨oc__law_rows, od__law_rows, .func (PySem.W.fnOf "_law_rows" "_law_rows" (defArgs s__law_rows) (defBody s__law_rows) (defScope s__law_rows) .none kV__law_rows dc__law_rows pm__law_rows an__law_rows cd__law_rows ct__law_rows), sl__law_rows⟩) (c__law_rows : PySem.W.codeIn K cd__law_rows "_law_rows" = true) (k__law_rows : PySem.W.keepIn K (.ref f__law_rows) = true)
    {f__law_rule : Addr} {oc__law_rule : Value} {od__law_rule an__law_rule : Option Addr} {sl__law_rule : Array (Option Value)} {kV__law_rule dc__law_rule pm__law_rule cd__law_rule ct__law_rule : Value}
    (a__law_rule : PySem.W.nsIn K mainGlobals "_law_rule" = some (some (.ref f__law_rule))) (l__law_rule : K.lookup f__law_rule = some ⟨oc__law_rule, od__law_rule, .func (PySem.W.fnOf "_law_rule" "_law_rule" (defArgs s__law_rule) (defBody s__law_rule) (defScope s__law_rule) .none kV__law_rule dc__law_rule pm__law_rule an__law_rule cd__law_rule ct__law_rule), sl__law_rule⟩) (c__law_rule : PySem.W.codeIn K cd__law_rule "_law_rule" = true) (k__law_rule : PySem.W.keepIn K (.ref f__law_rule) = true)
    {f__law_pair : Addr} {oc__law_pair : Value} {od__law_pair an__law_pair : Option Addr} {sl__law_pair : Array (Option Value)} {kV__law_pair dc__law_pair pm__law_pair cd__law_pair ct__law_pair : Value}
    (a__law_pair : PySem.W.nsIn K mainGlobals "_law_pair" = some (some (.ref f__law_pair))) (l__law_pair : K.lookup f__law_pair = some ⟨oc__law_pair, od__law_pair, .func (PySem.W.fnOf "_law_pair" "_law_pair" (defArgs s__law_pair) (defBody s__law_pair) (defScope s__law_pair) .none kV__law_pair dc__law_pair pm__law_pair an__law_pair cd__law_pair ct__law_pair), sl__law_pair⟩) (c__law_pair : PySem.W.codeIn K cd__law_pair "_law_pair" = true) (k__law_pair : PySem.W.keepIn K (.ref f__law_pair) = true)
    {f__law_setup : Addr} {oc__law_setup : Value} {od__law_setup an__law_setup : Option Addr} {sl__law_setup : Array (Option Value)} {kV__law_setup dc__law_setup pm__law_setup cd__law_setup ct__law_setup : Value}
    (a__law_setup : PySem.W.nsIn K mainGlobals "_law_setup" = some (some (.ref f__law_setup))) (l__law_setup : K.lookup f__law_setup = some ⟨oc__law_setup, od__law_setup, .func (PySem.W.fnOf "_law_setup" "_law_setup" (defArgs s__law_setup) (defBody s__law_setup) (defScope s__law_setup) .none kV__law_setup dc__law_setup pm__law_setup an__law_setup cd__law_setup ct__law_setup), sl__law_setup⟩) (c__law_setup : PySem.W.codeIn K cd__law_setup "_law_setup" = true) (k__law_setup : PySem.W.keepIn K (.ref f__law_setup) = true)
    {f__law_comers : Addr} {oc__law_comers : Value} {od__law_comers an__law_comers : Option Addr} {sl__law_comers : Array (Option Value)} {kV__law_comers dc__law_comers pm__law_comers cd__law_comers ct__law_comers : Value}
    (a__law_comers : PySem.W.nsIn K mainGlobals "_law_comers" = some (some (.ref f__law_comers))) (l__law_comers : K.lookup f__law_comers = some ⟨oc__law_comers, od__law_comers, .func (PySem.W.fnOf "_law_comers" "_law_comers" (defArgs s__law_comers) (defBody s__law_comers) (defScope s__law_comers) .none kV__law_comers dc__law_comers pm__law_comers an__law_comers cd__law_comers ct__law_comers), sl__law_comers⟩) (c__law_comers : PySem.W.codeIn K cd__law_comers "_law_comers" = true) (k__law_comers : PySem.W.keepIn K (.ref f__law_comers) = true)
    {f__law_count : Addr} {oc__law_count : Value} {od__law_count an__law_count : Option Addr} {sl__law_count : Array (Option Value)} {kV__law_count dc__law_count pm__law_count cd__law_count ct__law_count : Value}
    (a__law_count : PySem.W.nsIn K mainGlobals "_law_count" = some (some (.ref f__law_count))) (l__law_count : K.lookup f__law_count = some ⟨oc__law_count, od__law_count, .func (PySem.W.fnOf "_law_count" "_law_count" (defArgs s__law_count) (defBody s__law_count) (defScope s__law_count) .none kV__law_count dc__law_count pm__law_count an__law_count cd__law_count ct__law_count), sl__law_count⟩) (c__law_count : PySem.W.codeIn K cd__law_count "_law_count" = true) (k__law_count : PySem.W.keepIn K (.ref f__law_count) = true)
    {f__law_made : Addr} {oc__law_made : Value} {od__law_made an__law_made : Option Addr} {sl__law_made : Array (Option Value)} {kV__law_made dc__law_made pm__law_made cd__law_made ct__law_made : Value}
    (a__law_made : PySem.W.nsIn K mainGlobals "_law_made" = some (some (.ref f__law_made))) (l__law_made : K.lookup f__law_made = some ⟨oc__law_made, od__law_made, .func (PySem.W.fnOf "_law_made" "_law_made" (defArgs s__law_made) (defBody s__law_made) (defScope s__law_made) .none kV__law_made dc__law_made pm__law_made an__law_made cd__law_made ct__law_made), sl__law_made⟩) (c__law_made : PySem.W.codeIn K cd__law_made "_law_made" = true) (k__law_made : PySem.W.keepIn K (.ref f__law_made) = true)
    {f__law_spoilt : Addr} {oc__law_spoilt : Value} {od__law_spoilt an__law_spoilt : Option Addr} {sl__law_spoilt : Array (Option Value)} {kV__law_spoilt dc__law_spoilt pm__law_spoilt cd__law_spoilt ct__law_spoilt : Value}
    (a__law_spoilt : PySem.W.nsIn K mainGlobals "_law_spoilt" = some (some (.ref f__law_spoilt))) (l__law_spoilt : K.lookup f__law_spoilt = some ⟨oc__law_spoilt, od__law_spoilt, .func (PySem.W.fnOf "_law_spoilt" "_law_spoilt" (defArgs s__law_spoilt) (defBody s__law_spoilt) (defScope s__law_spoilt) .none kV__law_spoilt dc__law_spoilt pm__law_spoilt an__law_spoilt cd__law_spoilt ct__law_spoilt), sl__law_spoilt⟩) (c__law_spoilt : PySem.W.codeIn K cd__law_spoilt "_law_spoilt" = true) (k__law_spoilt : PySem.W.keepIn K (.ref f__law_spoilt) = true)
    {f__law_refused : Addr} {oc__law_refused : Value} {od__law_refused an__law_refused : Option Addr} {sl__law_refused : Array (Option Value)} {kV__law_refused dc__law_refused pm__law_refused cd__law_refused ct__law_refused : Value}
    (a__law_refused : PySem.W.nsIn K mainGlobals "_law_refused" = some (some (.ref f__law_refused))) (l__law_refused : K.lookup f__law_refused = some ⟨oc__law_refused, od__law_refused, .func (PySem.W.fnOf "_law_refused" "_law_refused" (defArgs s__law_refused) (defBody s__law_refused) (defScope s__law_refused) .none kV__law_refused dc__law_refused pm__law_refused an__law_refused cd__law_refused ct__law_refused), sl__law_refused⟩) (c__law_refused : PySem.W.codeIn K cd__law_refused "_law_refused" = true) (k__law_refused : PySem.W.keepIn K (.ref f__law_refused) = true)
    {f__law_bill_right : Addr} {oc__law_bill_right : Value} {od__law_bill_right an__law_bill_right : Option Addr} {sl__law_bill_right : Array (Option Value)} {kV__law_bill_right dc__law_bill_right pm__law_bill_right cd__law_bill_right ct__law_bill_right : Value}
    (a__law_bill_right : PySem.W.nsIn K mainGlobals "_law_bill_right" = some (some (.ref f__law_bill_right))) (l__law_bill_right : K.lookup f__law_bill_right = some ⟨oc__law_bill_right, od__law_bill_right, .func (PySem.W.fnOf "_law_bill_right" "_law_bill_right" (defArgs s__law_bill_right) (defBody s__law_bill_right) (defScope s__law_bill_right) .none kV__law_bill_right dc__law_bill_right pm__law_bill_right an__law_bill_right cd__law_bill_right ct__law_bill_right), sl__law_bill_right⟩) (c__law_bill_right : PySem.W.codeIn K cd__law_bill_right "_law_bill_right" = true) (k__law_bill_right : PySem.W.keepIn K (.ref f__law_bill_right) = true)
    {f_law : Addr} {oc_law : Value} {od_law an_law : Option Addr} {sl_law : Array (Option Value)} {kV_law dc_law pm_law cd_law ct_law : Value}
    (a_law : PySem.W.nsIn K mainGlobals "law" = some (some (.ref f_law))) (l_law : K.lookup f_law = some ⟨oc_law, od_law, .func (PySem.W.fnOf "law" "law" (defArgs s_law) (defBody s_law) (defScope s_law) .none kV_law dc_law pm_law an_law cd_law ct_law), sl_law⟩) (c_law : PySem.W.codeIn K cd_law "law" = true) (k_law : PySem.W.keepIn K (.ref f_law) = true)
    {m_DFL : Nat} {dd_DFL : Option Addr} {ss_DFL : Array (Option Value)} {u_DFL_0 : Tok} (o_DFL : K.lookup p_DFL = some ⟨.type "tuple", dd_DFL, .seq #[.int 200 u_DFL_0] m_DFL, ss_DFL⟩)
    (z_len : PySem.W.nsIn K mainGlobals "len" = some none)
    (z_isinstance : PySem.W.nsIn K mainGlobals "isinstance" = some none)
    (z_all : PySem.W.nsIn K mainGlobals "all" = some none)
    (z_max : PySem.W.nsIn K mainGlobals "max" = some none)
    (z_min : PySem.W.nsIn K mainGlobals "min" = some none)
    (z_sum : PySem.W.nsIn K mainGlobals "sum" = some none)
    (z_repr : PySem.W.nsIn K mainGlobals "repr" = some none)
    (z_int : PySem.W.nsIn K mainGlobals "int" = some none)
    (z_bool : PySem.W.nsIn K mainGlobals "bool" = some none)
    (z_tuple : PySem.W.nsIn K mainGlobals "tuple" = some none)
    (z_list : PySem.W.nsIn K mainGlobals "list" = some none)
    (z_range : PySem.W.nsIn K mainGlobals "range" = some none)
    (z_enumerate : PySem.W.nsIn K mainGlobals "enumerate" = some none)
    (z_zip : PySem.W.nsIn K mainGlobals "zip" = some none)
    {t_MOST_TUBS : Tok} (g_MOST_TUBS : PySem.W.nsIn K mainGlobals "MOST_TUBS" = some (some (.int 2 t_MOST_TUBS)))
    {t_NO_AGE : Tok} (g_NO_AGE : PySem.W.nsIn K mainGlobals "NO_AGE" = some (some (.int 9 t_NO_AGE)))
    {t_MOST_SEATS : Tok} (g_MOST_SEATS : PySem.W.nsIn K mainGlobals "MOST_SEATS" = some (some (.int 4 t_MOST_SEATS)))
    {t_MOST_PORTIONS : Tok} (g_MOST_PORTIONS : PySem.W.nsIn K mainGlobals "MOST_PORTIONS" = some (some (.int 4 t_MOST_PORTIONS)))
    {t_MOST_LIFE : Tok} (g_MOST_LIFE : PySem.W.nsIn K mainGlobals "MOST_LIFE" = some (some (.int 3 t_MOST_LIFE)))
    {t_MOST_PRICE : Tok} (g_MOST_PRICE : PySem.W.nsIn K mainGlobals "MOST_PRICE" = some (some (.int 5 t_MOST_PRICE)))
    {t_MOST_RULE_ROWS : Tok} (g_MOST_RULE_ROWS : PySem.W.nsIn K mainGlobals "MOST_RULE_ROWS" = some (some (.int 6 t_MOST_RULE_ROWS)))
    {t_LONGEST_ROW : Tok} (g_LONGEST_ROW : PySem.W.nsIn K mainGlobals "LONGEST_ROW" = some (some (.int 200 t_LONGEST_ROW)))
    {p_SEAT_DEEDS : Addr} (g_SEAT_DEEDS : PySem.W.nsIn K mainGlobals "SEAT_DEEDS" = some (some (.ref p_SEAT_DEEDS))) {u_SEAT_DEEDS_0 u_SEAT_DEEDS_1 u_SEAT_DEEDS_2 : Tok} {m_SEAT_DEEDS : Nat} {dd_SEAT_DEEDS : Option Addr} {ss_SEAT_DEEDS : Array (Option Value)} (o_SEAT_DEEDS : K.lookup p_SEAT_DEEDS = some ⟨.type "tuple", dd_SEAT_DEEDS, .seq #[.str "group" u_SEAT_DEEDS_0, .str "single" u_SEAT_DEEDS_1, .str "go" u_SEAT_DEEDS_2] m_SEAT_DEEDS, ss_SEAT_DEEDS⟩)
    {p_TUB_DEEDS : Addr} (g_TUB_DEEDS : PySem.W.nsIn K mainGlobals "TUB_DEEDS" = some (some (.ref p_TUB_DEEDS))) {u_TUB_DEEDS_0 u_TUB_DEEDS_1 u_TUB_DEEDS_2 : Tok} {m_TUB_DEEDS : Nat} {dd_TUB_DEEDS : Option Addr} {ss_TUB_DEEDS : Array (Option Value)} (o_TUB_DEEDS : K.lookup p_TUB_DEEDS = some ⟨.type "tuple", dd_TUB_DEEDS, .seq #[.str "small" u_TUB_DEEDS_0, .str "great" u_TUB_DEEDS_1, .str "rest" u_TUB_DEEDS_2] m_TUB_DEEDS, ss_TUB_DEEDS⟩)
    {p_EMPTY_HOUSE : Addr} (g_EMPTY_HOUSE : PySem.W.nsIn K mainGlobals "EMPTY_HOUSE" = some (some (.ref p_EMPTY_HOUSE))) {p_EMPTY_HOUSEs0 : Addr} {m_EMPTY_HOUSEs0 : Nat} {dd_EMPTY_HOUSEs0 : Option Addr} {ss_EMPTY_HOUSEs0 : Array (Option Value)} (o_EMPTY_HOUSEs0 : K.lookup p_EMPTY_HOUSEs0 = some ⟨.type "tuple", dd_EMPTY_HOUSEs0, .seq #[] m_EMPTY_HOUSEs0, ss_EMPTY_HOUSEs0⟩) {p_EMPTY_HOUSEs2 : Addr} {m_EMPTY_HOUSEs2 : Nat} {dd_EMPTY_HOUSEs2 : Option Addr} {ss_EMPTY_HOUSEs2 : Array (Option Value)} (o_EMPTY_HOUSEs2 : K.lookup p_EMPTY_HOUSEs2 = some ⟨.type "tuple", dd_EMPTY_HOUSEs2, .seq #[] m_EMPTY_HOUSEs2, ss_EMPTY_HOUSEs2⟩) {p_EMPTY_HOUSEs3 : Addr} {u_EMPTY_HOUSEs3_0 u_EMPTY_HOUSEs3_1 : Tok} {m_EMPTY_HOUSEs3 : Nat} {dd_EMPTY_HOUSEs3 : Option Addr} {ss_EMPTY_HOUSEs3 : Array (Option Value)} (o_EMPTY_HOUSEs3 : K.lookup p_EMPTY_HOUSEs3 = some ⟨.type "tuple", dd_EMPTY_HOUSEs3, .seq #[.int 0 u_EMPTY_HOUSEs3_0, .int 0 u_EMPTY_HOUSEs3_1] m_EMPTY_HOUSEs3, ss_EMPTY_HOUSEs3⟩) {u_EMPTY_HOUSE_1 : Tok} {m_EMPTY_HOUSE : Nat} {dd_EMPTY_HOUSE : Option Addr} {ss_EMPTY_HOUSE : Array (Option Value)} (o_EMPTY_HOUSE : K.lookup p_EMPTY_HOUSE = some ⟨.type "tuple", dd_EMPTY_HOUSE, .seq #[.ref p_EMPTY_HOUSEs0, .int 0 u_EMPTY_HOUSE_1, .ref p_EMPTY_HOUSEs2, .ref p_EMPTY_HOUSEs3] m_EMPTY_HOUSE, ss_EMPTY_HOUSE⟩)
    {m_DFLr : Nat} {dd_DFLr : Option Addr} {ss_DFLr : Array (Option Value)} (o_DFLr : K.lookup p_DFLr = some ⟨.type "tuple", dd_DFLr, .seq #[.ref p_EMPTY_HOUSE] m_DFLr, ss_DFLr⟩)
    {p_HOUSE_WORDS : Addr} (g_HOUSE_WORDS : PySem.W.nsIn K mainGlobals "HOUSE_WORDS" = some (some (.ref p_HOUSE_WORDS))) {u_HOUSE_WORDS_0 u_HOUSE_WORDS_1 u_HOUSE_WORDS_2 u_HOUSE_WORDS_3 u_HOUSE_WORDS_4 u_HOUSE_WORDS_5 u_HOUSE_WORDS_6 : Tok} {m_HOUSE_WORDS : Nat} {dd_HOUSE_WORDS : Option Addr} {ss_HOUSE_WORDS : Array (Option Value)} (o_HOUSE_WORDS : K.lookup p_HOUSE_WORDS = some ⟨.type "tuple", dd_HOUSE_WORDS, .seq #[.str "empty" u_HOUSE_WORDS_0, .str "away" u_HOUSE_WORDS_1, .str "unserved" u_HOUSE_WORDS_2, .str "melted" u_HOUSE_WORDS_3, .str "served" u_HOUSE_WORDS_4, .str "seated" u_HOUSE_WORDS_5, .str "cost" u_HOUSE_WORDS_6] m_HOUSE_WORDS, ss_HOUSE_WORDS⟩)
    {x_BadWhat x_BadBill x_ParlourError : Addr} 
    (gx_BadWhat : PySem.W.nsIn K mainGlobals "BadWhat" = some (some (.ref x_BadWhat))) (gx_BadBill : PySem.W.nsIn K mainGlobals "BadBill" = some (some (.ref x_BadBill))) (gx_ParlourError : PySem.W.nsIn K mainGlobals "ParlourError" = some (some (.ref x_ParlourError))) (zx : PySem.W.nsIn K mainGlobals "ValueError" = some none) (q1_BadWhat : PySem.W.excIn K x_BadWhat PySem.HandSPX.veTail "ValueError.__new__" = true) (q2_BadWhat : PySem.W.keepIn K (.ref x_BadWhat) = true) (q3_BadWhat : PySem.W.subIn K (.ref x_BadWhat) (.type "BaseException") = some true) (q4_BadWhat : PySem.W.typeIn K (.ref x_BadWhat) = some (.type "type")) (e1_BadWhat : PySem.W.findIn K (.ref x_BadWhat) "__getattribute__" = some (some (.builtin "BaseException.__getattribute__"))) (e2_BadWhat : PySem.W.findIn K (.ref x_BadWhat) "__getattr__" = some none) (e4_BadWhat : PySem.W.hasDictIn K x_BadWhat = true) (e5_BadWhat : PySem.W.findIn K (.ref x_BadWhat) "__class__" = some (some (.builtin "object.__class__"))) (e8_BadWhat : PySem.W.mroIn K x_BadWhat (.type "object") = some true) (h1_BadWhat : PySem.W.exmOne K (.ref x_BadWhat) (.ref x_ParlourError) = some true) (q1_BadBill : PySem.W.excIn K x_BadBill PySem.HandSPX.veTail "ValueError.__new__" = true) (q2_BadBill : PySem.W.keepIn K (.ref x_BadBill) = true) (q3_BadBill : PySem.W.subIn K (.ref x_BadBill) (.type "BaseException") = some true) (q4_BadBill : PySem.W.typeIn K (.ref x_BadBill) = some (.type "type")) (e1_BadBill : PySem.W.findIn K (.ref x_BadBill) "__getattribute__" = some (some (.builtin "BaseException.__getattribute__"))) (e2_BadBill : PySem.W.findIn K (.ref x_BadBill) "__getattr__" = some none) (e4_BadBill : PySem.W.hasDictIn K x_BadBill = true) (e5_BadBill : PySem.W.findIn K (.ref x_BadBill) "__class__" = some (some (.builtin "object.__class__"))) (e8_BadBill : PySem.W.mroIn K x_BadBill (.type "object") = some true) (h1_BadBill : PySem.W.exmOne K (.ref x_BadBill) (.ref x_ParlourError) = some true) (e6 : PySem.W.specialIn K (.builtin "object.__class__") "__get__" = some (some (.builtin "getset_descriptor.__get__"))) (e7 : PySem.W.takesIn K (.builtin "object.__class__") = some true) (i_WB : PySem.W.kitOne K (.ref x_BadWhat) (.ref x_BadBill) = some false) (i_WW : PySem.W.kitOne K (.ref x_BadWhat) (.ref x_BadWhat) = some true) (i_WV : PySem.W.kitOne K (.ref x_BadWhat) (.type "ValueError") = some true) (i_BB : PySem.W.kitOne K (.ref x_BadBill) (.ref x_BadBill) = some true) (i_BW : PySem.W.kitOne K (.ref x_BadBill) (.ref x_BadWhat) = some false) (i_BV : PySem.W.kitOne K (.ref x_BadBill) (.type "ValueError") = some true)
    (pc : PySem.W.codeHdIn K cw Pw = true) (pn : K.lookup Pw = none) (pt : h.get? Pw = some { cls := .none, data := .fields #[] }) :
    ∃ (fd : FuncData) (cw Pw : Addr) (sp : Sp), h.get? Pw = some { cls := .none, data := .fields #[] } ∧ K.lookup Pw = none ∧ PySem.W.CodeHd h cw Pw ∧ (∀ (s : Shared) (u : Value), BindsTo s fd ⟨[u], []⟩ [("_law_script", u)]) ∧
        (∀ (H : Hp) (a : Addr) (ns : List Int), ns.length ≤ 63 → H Pw = some (.tbl #[]) → SqL K H a (ns.map V.int) → sp [.ref a] H (fun v _ => v = .bl true) fun _ _ _ => False) ∧
        ∀ base : Heap, K.In base → base.Ns mainGlobals mg → TabB base mg cw Pw → Grd.FnG l.prog w K mg base CX0 11 fa fd ["_law_script"] sp := by
  have e := hfa.symm.trans (PySem.W.mg_of X G a_law)
  cases e
  have D_fitting_row := defAt_mk (st := s_fitting_row) (ps := ["rule", "mood", "looks", "deeds"]) X G a_fitting_row l_fitting_row c_fitting_row k_fitting_row (fun _ _ _ _ _ _ us hl => match us, hl with | [_, _, _, _], _ => rfl)
  have D_within := defAt_mk (st := s_within) (ps := ["looks", "spans"]) X G a_within l_within c_within k_within (fun _ _ _ _ _ _ us hl => match us, hl with | [_, _], _ => rfl)
  have D_come_in := defAt_mk (st := s_come_in) (ps := ["setup", "line", "singles", "comers"]) X G a_come_in l_come_in c_come_in k_come_in (fun _ _ _ _ _ _ us hl => match us, hl with | [_, _, _, _], _ => rfl)
  have D_bench_deeds := defAt_mk (st := s_bench_deeds) (ps := ["line", "singles", "left"]) X G a_bench_deeds l_bench_deeds c_bench_deeds k_bench_deeds (fun _ _ _ _ _ _ us hl => match us, hl with | [_, _, _], _ => rfl)
  have D_fill_bench := defAt_mk (st := s_fill_bench) (ps := ["setup", "rule", "standing", "portions"]) X G a_fill_bench l_fill_bench c_fill_bench k_fill_bench (fun _ _ _ _ _ _ us hl => match us, hl with | [_, _, _, _], _ => rfl)
  have D_bench_beat := defAt_mk (st := s_bench_beat) (ps := ["setup", "rule", "standing", "comers", "portions"]) X G a_bench_beat l_bench_beat c_bench_beat k_bench_beat (fun _ _ _ _ _ _ us hl => match us, hl with | [_, _, _, _, _], _ => rfl)
  have D_seated := defAt_mk (st := s_seated) (ps := ["deeds"]) X G a_seated l_seated c_seated k_seated (fun _ _ _ _ _ _ us hl => match us, hl with | [_], _ => rfl)
  have D_portions_open := defAt_mk (st := s_portions_open) (ps := ["tubs"]) X G a_portions_open l_portions_open c_portions_open k_portions_open (fun _ _ _ _ _ _ us hl => match us, hl with | [_], _ => rfl)
  have D_tub_deeds := defAt_mk (st := s_tub_deeds) (ps := ["tubs"]) X G a_tub_deeds l_tub_deeds c_tub_deeds k_tub_deeds (fun _ _ _ _ _ _ us hl => match us, hl with | [_], _ => rfl)
  have D_with_tub := defAt_mk (st := s_with_tub) (ps := ["setup", "tubs", "deed"]) X G a_with_tub l_with_tub c_with_tub k_with_tub (fun _ _ _ _ _ _ us hl => match us, hl with | [_, _, _], _ => rfl)
  have D_open_tubs := defAt_mk (st := s_open_tubs) (ps := ["setup", "rule", "standing", "asked", "waiting"]) X G a_open_tubs l_open_tubs c_open_tubs k_open_tubs (fun _ _ _ _ _ _ us hl => match us, hl with | [_, _, _, _, _], _ => rfl)
  have D_eaten_of := defAt_mk (st := s_eaten_of) (ps := ["tubs", "asked"]) X G a_eaten_of l_eaten_of c_eaten_of k_eaten_of (fun _ _ _ _ _ _ us hl => match us, hl with | [_, _], _ => rfl)
  have D_end_beat := defAt_mk (st := s_end_beat) (ps := ["setup", "tubs", "asked"]) X G a_end_beat l_end_beat c_end_beat k_end_beat (fun _ _ _ _ _ _ us hl => match us, hl with | [_, _, _], _ => rfl)
  have D_tub_beat := defAt_mk (st := s_tub_beat) (ps := ["setup", "rule", "standing", "asked", "waiting"]) X G a_tub_beat l_tub_beat c_tub_beat k_tub_beat (fun _ _ _ _ _ _ us hl => match us, hl with | [_, _, _, _, _], _ => rfl)
  have D_tubs_cost := defAt_mk (st := s_tubs_cost) (ps := ["setup", "unserved", "melted"]) X G a_tubs_cost l_tubs_cost c_tubs_cost k_tubs_cost (fun _ _ _ _ _ _ us hl => match us, hl with | [_, _, _], _ => rfl)
  have D_is_whole := defAt_mk (st := s_is_whole) (ps := ["thing"]) X G a_is_whole l_is_whole c_is_whole k_is_whole (fun _ _ _ _ _ _ us hl => match us, hl with | [_], _ => rfl)
  have D_is_whole_in := defAt_mk (st := s_is_whole_in) (ps := ["thing", "low", "high"]) X G a_is_whole_in l_is_whole_in c_is_whole_in k_is_whole_in (fun _ _ _ _ _ _ us hl => match us, hl with | [_, _, _], _ => rfl)
  have D_is_pair := defAt_mk (st := s_is_pair) (ps := ["thing"]) X G a_is_pair l_is_pair c_is_pair k_is_pair (fun _ _ _ _ _ _ us hl => match us, hl with | [_], _ => rfl)
  have D_fault_in := defAt_mk (st := s_fault_in) (ps := ["thing", "fits", "most"]) X G a_fault_in l_fault_in c_fault_in k_fault_in (fun _ _ _ _ _ _ us hl => match us, hl with | [_, _, _], _ => rfl)
  have D_is_setup := defAt_mk (st := s_is_setup) (ps := ["thing"]) X G a_is_setup l_is_setup c_is_setup k_is_setup (fun _ _ _ _ _ _ us hl => match us, hl with | [_], _ => rfl)
  have D_is_choice := defAt_mk (st := s_is_choice) (ps := ["thing", "most"]) X G a_is_choice l_is_choice c_is_choice k_is_choice (fun _ _ _ _ _ _ us hl => match us, hl with | [_, _], _ => rfl)
  have D_check_setup := defAt_mk (st := s_check_setup) (ps := ["thing"]) X G a_check_setup l_check_setup c_check_setup k_check_setup (fun _ _ _ _ _ _ us hl => match us, hl with | [_], _ => rfl)
  have D_is_comers := defAt_mk (st := s_is_comers) (ps := ["setup", "thing"]) X G a_is_comers l_is_comers c_is_comers k_is_comers (fun _ _ _ _ _ _ us hl => match us, hl with | [_, _], _ => rfl)
  have D_is_half := defAt_mk (st := s_is_half) (ps := ["thing", "deeds"]) X G a_is_half l_is_half c_is_half k_is_half (fun _ _ _ _ _ _ us hl => match us, hl with | [_, _], _ => rfl)
  have D_is_rule_row := defAt_mk (st := s_is_rule_row) (ps := ["thing", "deeds"]) X G a_is_rule_row l_is_rule_row c_is_rule_row k_is_rule_row (fun _ _ _ _ _ _ us hl => match us, hl with | [_, _], _ => rfl)
  have D_is_span := defAt_mk (st := s_is_span) (ps := ["thing"]) X G a_is_span l_is_span c_is_span k_is_span (fun _ _ _ _ _ _ us hl => match us, hl with | [_], _ => rfl)
  have D_is_seats := defAt_mk (st := s_is_seats) (ps := ["thing"]) X G a_is_seats l_is_seats c_is_seats k_is_seats (fun _ _ _ _ _ _ us hl => match us, hl with | [_], _ => rfl)
  have D_is_tubs := defAt_mk (st := s_is_tubs) (ps := ["thing"]) X G a_is_tubs l_is_tubs c_is_tubs k_is_tubs (fun _ _ _ _ _ _ us hl => match us, hl with | [_], _ => rfl)
  have D_is_rule := defAt_mk (st := s_is_rule) (ps := ["thing"]) X G a_is_rule l_is_rule c_is_rule k_is_rule (fun _ _ _ _ _ _ us hl => match us, hl with | [_], _ => rfl)
  have D_check_rule := defAt_mk (st := s_check_rule) (ps := ["thing"]) X G a_check_rule l_check_rule c_check_rule k_check_rule (fun _ _ _ _ _ _ us hl => match us, hl with | [_], _ => rfl)
  have D_check_what := defAt_mk (st := s_check_what) (ps := ["thing"]) X G a_check_what l_check_what c_check_what k_check_what (fun _ _ _ _ _ _ us hl => match us, hl with | [_], _ => rfl)
  have D_house_beat := defAt_mk (st := s_house_beat) (ps := ["setup", "rule", "standing", "comers"]) X G a_house_beat l_house_beat c_house_beat k_house_beat (fun _ _ _ _ _ _ us hl => match us, hl with | [_, _, _, _], _ => rfl)
  have FDr : FunD K "run_house" "run_house" (defArgs s_run_house) (defBody s_run_house) (defScope s_run_house) [.ref p_EMPTY_HOUSE] [] f_run_house _ := ⟨⟨_, _, _, _, _, _, _, _, _, _, rfl, l_run_house, c_run_house, .inr ⟨by simp, _, _, [.ref p_EMPTY_HOUSE], _, rfl, o_DFLr, rfl, (.cons rfl .nil)⟩, .inl rfl⟩, k_run_house⟩
  have FBr : ∃ ds, Vals [.ref p_EMPTY_HOUSE] ds ∧ Binds K _ ["setup", "rule", "row", "standing"] ds := FDr.binds1 (ps := ["setup", "rule", "row", "standing"]) 3 0 (by simp) rfl fun T kV doc pm an cdv ct us its l1 l2 => match us, its, l1, l2 with | [_, _, _], [_], _, _ => ⟨_, rfl, rfl⟩
  have D_run_house : DefC K mg "run_house" s_run_house ["setup", "rule", "row", "standing"] [.ref p_EMPTY_HOUSE] f_run_house _ cwr := ⟨⟨_, _, _, _, _, _, _, _, _, rfl, l_run_house, c_run_house⟩, PySem.W.mg_of X G a_run_house, k_run_house, FBr⟩
  have D_check_house_row := defAt_mk (st := s_check_house_row) (ps := ["setup", "rule", "row"]) X G a_check_house_row l_check_house_row c_check_house_row k_check_house_row (fun _ _ _ _ _ _ us hl => match us, hl with | [_, _, _], _ => rfl)
  have D_bills_of := defAt_mk (st := s_bills_of) (ps := ["setup", "rule", "row"]) X G a_bills_of l_bills_of c_bills_of k_bills_of (fun _ _ _ _ _ _ us hl => match us, hl with | [_, _, _], _ => rfl)
  have D_is_deed := defAt_mk (st := s_is_deed) (ps := ["setup", "thing"]) X G a_is_deed l_is_deed c_is_deed k_is_deed (fun _ _ _ _ _ _ us hl => match us, hl with | [_, _], _ => rfl)
  have D_is_bill := defAt_mk (st := s_is_bill) (ps := ["setup", "thing"]) X G a_is_bill l_is_bill c_is_bill k_is_bill (fun _ _ _ _ _ _ us hl => match us, hl with | [_, _], _ => rfl)
  have D_count_of := defAt_mk (st := s_count_of) (ps := ["setup", "what", "bill"]) X G a_count_of l_count_of c_count_of k_count_of (fun _ _ _ _ _ _ us hl => match us, hl with | [_, _, _], _ => rfl)
  have D_bill_count := defAt_mk (st := s_bill_count) (ps := ["setup", "what", "bill"]) X G a_bill_count l_bill_count c_bill_count k_bill_count (fun _ _ _ _ _ _ us hl => match us, hl with | [_, _, _], _ => rfl)
  have D_totals_of := defAt_mk (st := s_totals_of) (ps := ["setup", "rule", "row"]) X G a_totals_of l_totals_of c_totals_of k_totals_of (fun _ _ _ _ _ _ us hl => match us, hl with | [_, _, _], _ => rfl)
  have D_bill_totals := defAt_mk (st := s_bill_totals) (ps := ["setup", "bills"]) X G a_bill_totals l_bill_totals c_bill_totals k_bill_totals (fun _ _ _ _ _ _ us hl => match us, hl with | [_, _], _ => rfl)
  have D__law_source := defAt_mk (st := s__law_source) (ps := ["_law_script", "_law_index"]) X G a__law_source l__law_source c__law_source k__law_source (fun _ _ _ _ _ _ us hl => match us, hl with | [_, _], _ => rfl)
  have D__law_draw := defAt_mk (st := s__law_draw) (ps := ["_law_source_here", "_law_bound"]) X G a__law_draw l__law_draw c__law_draw k__law_draw (fun _ _ _ _ _ _ us hl => match us, hl with | [_, _], _ => rfl)
  have D__law_span := defAt_mk (st := s__law_span) (ps := ["_law_source_here"]) X G a__law_span l__law_span c__law_span k__law_span (fun _ _ _ _ _ _ us hl => match us, hl with | [_], _ => rfl)
  have D__law_rows := defAt_mk (st := s__law_rows) (ps := ["_law_source_here", "_law_deeds", "_law_many", "_law_moods"]) X G a__law_rows l__law_rows c__law_rows k__law_rows (fun _ _ _ _ _ _ us hl => match us, hl with | [_, _, _, _], _ => rfl)
  have D__law_rule := defAt_mk (st := s__law_rule) (ps := ["_law_source_here", "_law_many", "_law_moods"]) X G a__law_rule l__law_rule c__law_rule k__law_rule (fun _ _ _ _ _ _ us hl => match us, hl with | [_, _, _], _ => rfl)
  have D__law_pair := defAt_mk (st := s__law_pair) (ps := ["_law_source_here", "_law_most"]) X G a__law_pair l__law_pair c__law_pair k__law_pair (fun _ _ _ _ _ _ us hl => match us, hl with | [_, _], _ => rfl)
  have D__law_setup := defAt_mk (st := s__law_setup) (ps := ["_law_source_here"]) X G a__law_setup l__law_setup c__law_setup k__law_setup (fun _ _ _ _ _ _ us hl => match us, hl with | [_], _ => rfl)
  have D__law_comers := defAt_mk (st := s__law_comers) (ps := ["_law_shop"]) X G a__law_comers l__law_comers c__law_comers k__law_comers (fun _ _ _ _ _ _ us hl => match us, hl with | [_], _ => rfl)
  have D__law_count := defAt_mk (st := s__law_count) (ps := ["_law_shop", "_law_tag", "_law_slip"]) X G a__law_count l__law_count c__law_count k__law_count (fun _ _ _ _ _ _ us hl => match us, hl with | [_, _, _], _ => rfl)
  have D__law_made := defAt_mk (st := s__law_made) (ps := ["_law_source_here", "_law_shop"]) X G a__law_made l__law_made c__law_made k__law_made (fun _ _ _ _ _ _ us hl => match us, hl with | [_, _], _ => rfl)
  have D__law_spoilt := defAt_mk (st := s__law_spoilt) (ps := ["_law_source_here", "_law_shop", "_law_slip"]) X G a__law_spoilt l__law_spoilt c__law_spoilt k__law_spoilt (fun _ _ _ _ _ _ us hl => match us, hl with | [_, _, _], _ => rfl)
  have D__law_refused := defAt_mk (st := s__law_refused) (ps := ["_law_shop", "_law_tag", "_law_slip"]) X G a__law_refused l__law_refused c__law_refused k__law_refused (fun _ _ _ _ _ _ us hl => match us, hl with | [_, _, _], _ => rfl)
  have D__law_bill_right := defAt_mk (st := s__law_bill_right) (ps := ["_law_source_here", "_law_shop", "_law_slip"]) X G a__law_bill_right l__law_bill_right c__law_bill_right k__law_bill_right (fun _ _ _ _ _ _ us hl => match us, hl with | [_, _, _], _ => rfl)
  have FD : FunD K "check_row" "check_row" (defArgs s_check_row) (defBody s_check_row) (defScope s_check_row) [.int 200] [] f_check_row _ := ⟨⟨_, _, _, _, _, _, _, _, _, _, rfl, l_check_row, c_check_row, .inr ⟨by simp, _, _, [.int 200 u_DFL_0], _, rfl, o_DFL, rfl, (.cons ⟨_, rfl⟩ .nil)⟩, .inl rfl⟩, k_check_row⟩
  have FB : ∃ ds, Vals [.int 200] ds ∧ Binds K _ ["setup", "thing", "most"] ds := FD.binds1 (ps := ["setup", "thing", "most"]) 2 0 (by simp) rfl fun T kV doc pm an cdv ct us its l1 l2 => match us, its, l1, l2 with | [_, _], [_], _, _ => ⟨_, rfl, rfl⟩
  have D_check_row : DefC K mg "check_row" s_check_row ["setup", "thing", "most"] [.int 200] f_check_row _ cw := ⟨⟨_, _, _, _, _, _, _, _, _, rfl, l_check_row, c_check_row⟩, PySem.W.mg_of X G a_check_row, k_check_row, FB⟩
  let T : Top K mg := {
    f_fitting_row := _, d_fitting_row := _, D_fitting_row := D_fitting_row,
    f_within := _, d_within := _, D_within := D_within,
    f_come_in := _, d_come_in := _, D_come_in := D_come_in,
    f_bench_deeds := _, d_bench_deeds := _, D_bench_deeds := D_bench_deeds,
    f_fill_bench := _, d_fill_bench := _, D_fill_bench := D_fill_bench,
    f_bench_beat := _, d_bench_beat := _, D_bench_beat := D_bench_beat,
    f_seated := _, d_seated := _, D_seated := D_seated,
    f_portions_open := _, d_portions_open := _, D_portions_open := D_portions_open,
    f_tub_deeds := _, d_tub_deeds := _, D_tub_deeds := D_tub_deeds,
    f_with_tub := _, d_with_tub := _, D_with_tub := D_with_tub,
    f_open_tubs := _, d_open_tubs := _, D_open_tubs := D_open_tubs,
    f_eaten_of := _, d_eaten_of := _, D_eaten_of := D_eaten_of,
    f_end_beat := _, d_end_beat := _, D_end_beat := D_end_beat,
    f_tub_beat := _, d_tub_beat := _, D_tub_beat := D_tub_beat,
    f_tubs_cost := _, d_tubs_cost := _, D_tubs_cost := D_tubs_cost,
    f_is_whole := _, d_is_whole := _, D_is_whole := D_is_whole,
    f_is_whole_in := _, d_is_whole_in := _, D_is_whole_in := D_is_whole_in,
    f_is_pair := _, d_is_pair := _, D_is_pair := D_is_pair,
    f_fault_in := _, d_fault_in := _, D_fault_in := D_fault_in,
    f_is_setup := _, d_is_setup := _, D_is_setup := D_is_setup,
    f_is_choice := _, d_is_choice := _, D_is_choice := D_is_choice,
    f_check_setup := _, d_check_setup := _, D_check_setup := D_check_setup,
    f_is_comers := _, d_is_comers := _, D_is_comers := D_is_comers,
    f_check_row := _, d_check_row := _, D_check_row := D_check_row, cw := cw,
    f_is_half := _, d_is_half := _, D_is_half := D_is_half,
    f_is_rule_row := _, d_is_rule_row := _, D_is_rule_row := D_is_rule_row,
    f_is_span := _, d_is_span := _, D_is_span := D_is_span,
    f_is_seats := _, d_is_seats := _, D_is_seats := D_is_seats,
    f_is_tubs := _, d_is_tubs := _, D_is_tubs := D_is_tubs,
    f_is_rule := _, d_is_rule := _, D_is_rule := D_is_rule,
    f_check_rule := _, d_check_rule := _, D_check_rule := D_check_rule,
    f_check_what := _, d_check_what := _, D_check_what := D_check_what,
    f_house_beat := _, d_house_beat := _, D_house_beat := D_house_beat,
    f_run_house := _, d_run_house := _, D_run_house := D_run_house, cwr := cwr,
    f_check_house_row := _, d_check_house_row := _, D_check_house_row := D_check_house_row,
    f_bills_of := _, d_bills_of := _, D_bills_of := D_bills_of,
    f_is_deed := _, d_is_deed := _, D_is_deed := D_is_deed,
    f_is_bill := _, d_is_bill := _, D_is_bill := D_is_bill,
    f_count_of := _, d_count_of := _, D_count_of := D_count_of,
    f_bill_count := _, d_bill_count := _, D_bill_count := D_bill_count,
    f_totals_of := _, d_totals_of := _, D_totals_of := D_totals_of,
    f_bill_totals := _, d_bill_totals := _, D_bill_totals := D_bill_totals,
    f__law_source := _, d__law_source := _, D__law_source := D__law_source,
    f__law_draw := _, d__law_draw := _, D__law_draw := D__law_draw,
    f__law_span := _, d__law_span := _, D__law_span := D__law_span,
    f__law_rows := _, d__law_rows := _, D__law_rows := D__law_rows,
    f__law_rule := _, d__law_rule := _, D__law_rule := D__law_rule,
    f__law_pair := _, d__law_pair := _, D__law_pair := D__law_pair,
    f__law_setup := _, d__law_setup := _, D__law_setup := D__law_setup,
    f__law_comers := _, d__law_comers := _, D__law_comers := D__law_comers,
    f__law_count := _, d__law_count := _, D__law_count := D__law_count,
    f__law_made := _, d__law_made := _, D__law_made := D__law_made,
    f__law_spoilt := _, d__law_spoilt := _, D__law_spoilt := D__law_spoilt,
    f__law_refused := _, d__law_refused := _, D__law_refused := D__law_refused,
    f__law_bill_right := _, d__law_bill_right := _, D__law_bill_right := D__law_bill_right,
    b_len := PySem.W.mg_none_of X G z_len,
    b_isinstance := PySem.W.mg_none_of X G z_isinstance,
    b_all := PySem.W.mg_none_of X G z_all,
    b_max := PySem.W.mg_none_of X G z_max,
    b_min := PySem.W.mg_none_of X G z_min,
    b_sum := PySem.W.mg_none_of X G z_sum,
    b_repr := PySem.W.mg_none_of X G z_repr,
    b_int := PySem.W.mg_none_of X G z_int,
    b_bool := PySem.W.mg_none_of X G z_bool,
    b_tuple := PySem.W.mg_none_of X G z_tuple,
    b_list := PySem.W.mg_none_of X G z_list,
    b_range := PySem.W.mg_none_of X G z_range,
    b_enumerate := PySem.W.mg_none_of X G z_enumerate,
    b_zip := PySem.W.mg_none_of X G z_zip,
    t_MOST_TUBS := _, c_MOST_TUBS := PySem.W.mg_of X G g_MOST_TUBS,
    t_NO_AGE := _, c_NO_AGE := PySem.W.mg_of X G g_NO_AGE,
    t_MOST_SEATS := _, c_MOST_SEATS := PySem.W.mg_of X G g_MOST_SEATS,
    t_MOST_PORTIONS := _, c_MOST_PORTIONS := PySem.W.mg_of X G g_MOST_PORTIONS,
    t_MOST_LIFE := _, c_MOST_LIFE := PySem.W.mg_of X G g_MOST_LIFE,
    t_MOST_PRICE := _, c_MOST_PRICE := PySem.W.mg_of X G g_MOST_PRICE,
    t_MOST_RULE_ROWS := _, c_MOST_RULE_ROWS := PySem.W.mg_of X G g_MOST_RULE_ROWS,
    t_LONGEST_ROW := _, c_LONGEST_ROW := PySem.W.mg_of X G g_LONGEST_ROW,
    p_SEAT_DEEDS := _, c_SEAT_DEEDS := PySem.W.mg_of X G g_SEAT_DEEDS, v_SEAT_DEEDS := fun H => .tup (xs := [.str "group", .str "single", .str "go"]) (.inr ⟨_, _, _, o_SEAT_DEEDS, rfl, rfl, by simp [sizeLine_eq], (.cons ⟨_, rfl⟩ (.cons ⟨_, rfl⟩ (.cons ⟨_, rfl⟩ .nil)))⟩) (.cons (.str _) (.cons (.str _) (.cons (.str _) .nil))),
    p_TUB_DEEDS := _, c_TUB_DEEDS := PySem.W.mg_of X G g_TUB_DEEDS, v_TUB_DEEDS := fun H => .tup (xs := [.str "small", .str "great", .str "rest"]) (.inr ⟨_, _, _, o_TUB_DEEDS, rfl, rfl, by simp [sizeLine_eq], (.cons ⟨_, rfl⟩ (.cons ⟨_, rfl⟩ (.cons ⟨_, rfl⟩ .nil)))⟩) (.cons (.str _) (.cons (.str _) (.cons (.str _) .nil))),
    p_EMPTY_HOUSE := _, c_EMPTY_HOUSE := PySem.W.mg_of X G g_EMPTY_HOUSE, v_EMPTY_HOUSE := fun H => .tup (xs := [.ref p_EMPTY_HOUSEs0, .int 0, .ref p_EMPTY_HOUSEs2, .ref p_EMPTY_HOUSEs3]) (.inr ⟨_, _, _, o_EMPTY_HOUSE, rfl, rfl, by simp [sizeLine_eq], (.cons rfl (.cons ⟨_, rfl⟩ (.cons rfl (.cons rfl .nil))))⟩) (.cons (.tup (xs := []) (.inr ⟨_, _, _, o_EMPTY_HOUSEs0, rfl, rfl, by simp [sizeLine_eq], .nil⟩) .nil) (.cons (.int _) (.cons (.tup (xs := []) (.inr ⟨_, _, _, o_EMPTY_HOUSEs2, rfl, rfl, by simp [sizeLine_eq], .nil⟩) .nil) (.cons (.tup (xs := [.int 0, .int 0]) (.inr ⟨_, _, _, o_EMPTY_HOUSEs3, rfl, rfl, by simp [sizeLine_eq], (.cons ⟨_, rfl⟩ (.cons ⟨_, rfl⟩ .nil))⟩) (.cons (.int _) (.cons (.int _) .nil))) .nil)))),
    p_HOUSE_WORDS := _, c_HOUSE_WORDS := PySem.W.mg_of X G g_HOUSE_WORDS, v_HOUSE_WORDS := fun H => .tup (xs := [.str "empty", .str "away", .str "unserved", .str "melted", .str "served", .str "seated", .str "cost"]) (.inr ⟨_, _, _, o_HOUSE_WORDS, rfl, rfl, by simp [sizeLine_eq], (.cons ⟨_, rfl⟩ (.cons ⟨_, rfl⟩ (.cons ⟨_, rfl⟩ (.cons ⟨_, rfl⟩ (.cons ⟨_, rfl⟩ (.cons ⟨_, rfl⟩ (.cons ⟨_, rfl⟩ .nil)))))))⟩) (.cons (.str _) (.cons (.str _) (.cons (.str _) (.cons (.str _) (.cons (.str _) (.cons (.str _) (.cons (.str _) .nil))))))),
    KN_count_of__bill_what_setup := ⟨fun s us ws _ l1 l2 => match us, ws, l1, l2 with | [], [_, _, _], _, _ => .of_eq rfl, fun _ h => kw_vals h _⟩,
    KN_totals_of__row_rule_setup := ⟨fun s us ws _ l1 l2 => match us, ws, l1, l2 with | [], [_, _, _], _, _ => .of_eq rfl, fun _ h => kw_vals h _⟩,
    x_BadWhat := _, X_BadWhat := ⟨q1_BadWhat, PySem.W.mg_of X G gx_BadWhat, q2_BadWhat, q3_BadWhat, q4_BadWhat⟩, E_BadWhat := ⟨e1_BadWhat, e2_BadWhat, q3_BadWhat, e4_BadWhat, e5_BadWhat, e6, e7, e8_BadWhat⟩, h_BadWhat := h1_BadWhat,
    x_BadBill := _, X_BadBill := ⟨q1_BadBill, PySem.W.mg_of X G gx_BadBill, q2_BadBill, q3_BadBill, q4_BadBill⟩, E_BadBill := ⟨e1_BadBill, e2_BadBill, q3_BadBill, e4_BadBill, e5_BadBill, e6, e7, e8_BadBill⟩, h_BadBill := h1_BadBill,
    x_ParlourError := _, m_ParlourError := PySem.W.mg_of X G gx_ParlourError, b_ValueError := PySem.W.mg_none_of X G zx,
    i_WB := i_WB,
    i_WW := i_WW,
    i_WV := i_WV,
    i_BB := i_BB,
    i_BW := i_BW,
    i_BV := i_BV }
  letI : Tb K := ⟨[(Pw, lamQ)]⟩
  have hT : Tb.T (K := K) = [(Pw, lamQ)] := rfl
  exact ⟨PySem.W.fnOf "law" "law" (defArgs s_law) (defBody s_law) (defScope s_law) .none kV_law dc_law pm_law an_law cd_law ct_law, cw, Pw, spA K spLawA, pt, pn, PySem.W.codeHd_of_K X pc, fun s v => .of_eq rfl, fun H a ns hl hP hS => spLaw_of hT hl hP hS, fun base _ _ TB => ok_law T TB hT (fun_mk (st := s_law) l_law c_law k_law)⟩
end K38
open PySem PySem.W PyProof.Rows
set_option maxRecDepth 100000 in
set_option maxHeartbeats 0 in
theorem PySem.Challenge.cw_parlourday_k38_counts_of_bills_holds : PySem.Challenge.rw_parlourday_k38_counts_of_bills.Holds := by
  w_on; o_law; k_head; (case hw => w_witness2)
  k_fill
  refine Grd.walk_ofG (l := PySem.Challenge.rw_parlourday_k38_counts_of_bills) (n := 63) (k := 11) (x := "_law_script") rfl (by decide) rfl ⟨rfl, by decide, by decide⟩ (fun w h Y => PySem.W.km_in_of Y) ?F
  case F =>
    intro w mg fa h Y KX G hmg
    have hT8 := PySem.W.km_tabs_of Y
    refine' K38.all_mk KX G hmg ?a_fitting_row ?l_fitting_row ?c_fitting_row ?k_fitting_row ?a_within ?l_within ?c_within ?k_within ?a_come_in ?l_come_in ?c_come_in ?k_come_in ?a_bench_deeds ?l_bench_deeds ?c_bench_deeds ?k_bench_deeds ?a_fill_bench ?l_fill_bench ?c_fill_bench ?k_fill_bench ?a_bench_beat ?l_bench_beat ?c_bench_beat ?k_bench_beat ?a_seated ?l_seated ?c_seated ?k_seated ?a_portions_open ?l_portions_open ?c_portions_open ?k_portions_open ?a_tub_deeds ?l_tub_deeds ?c_tub_deeds ?k_tub_deeds ?a_with_tub ?l_with_tub ?c_with_tub ?k_with_tub ?a_open_tubs ?l_open_tubs ?c_open_tubs ?k_open_tubs ?a_eaten_of ?l_eaten_of ?c_eaten_of ?k_eaten_of ?a_end_beat ?l_end_beat ?c_end_beat ?k_end_beat ?a_tub_beat ?l_tub_beat ?c_tub_beat ?k_tub_beat ?a_tubs_cost ?l_tubs_cost ?c_tubs_cost ?k_tubs_cost ?a_is_whole ?l_is_whole ?c_is_whole ?k_is_whole ?a_is_whole_in ?l_is_whole_in ?c_is_whole_in ?k_is_whole_in ?a_is_pair ?l_is_pair ?c_is_pair ?k_is_pair ?a_fault_in ?l_fault_in ?c_fault_in ?k_fault_in ?a_is_setup ?l_is_setup ?c_is_setup ?k_is_setup ?a_is_choice ?l_is_choice ?c_is_choice ?k_is_choice ?a_check_setup ?l_check_setup ?c_check_setup ?k_check_setup ?a_is_comers ?l_is_comers ?c_is_comers ?k_is_comers ?a_check_row ?l_check_row ?c_check_row ?k_check_row ?a_is_half ?l_is_half ?c_is_half ?k_is_half ?a_is_rule_row ?l_is_rule_row ?c_is_rule_row ?k_is_rule_row ?a_is_span ?l_is_span ?c_is_span ?k_is_span ?a_is_seats ?l_is_seats ?c_is_seats ?k_is_seats ?a_is_tubs ?l_is_tubs ?c_is_tubs ?k_is_tubs ?a_is_rule ?l_is_rule ?c_is_rule ?k_is_rule ?a_check_rule ?l_check_rule ?c_check_rule ?k_check_rule ?a_check_what ?l_check_what ?c_check_what ?k_check_what ?a_house_beat ?l_house_beat ?c_house_beat ?k_house_beat ?a_run_house ?l_run_house ?c_run_house ?k_run_house ?a_check_house_row ?l_check_house_row ?c_check_house_row ?k_check_house_row ?a_bills_of ?l_bills_of ?c_bills_of ?k_bills_of ?a_is_deed ?l_is_deed ?c_is_deed ?k_is_deed ?a_is_bill ?l_is_bill ?c_is_bill ?k_is_bill ?a_count_of ?l_count_of ?c_count_of ?k_count_of ?a_bill_count ?l_bill_count ?c_bill_count ?k_bill_count ?a_totals_of ?l_totals_of ?c_totals_of ?k_totals_of ?a_bill_totals ?l_bill_totals ?c_bill_totals ?k_bill_totals ?a__law_source ?l__law_source ?c__law_source ?k__law_source ?a__law_draw ?l__law_draw ?c__law_draw ?k__law_draw ?a__law_span ?l__law_span ?c__law_span ?k__law_span ?a__law_rows ?l__law_rows ?c__law_rows ?k__law_rows ?a__law_rule ?l__law_rule ?c__law_rule ?k__law_rule ?a__law_pair ?l__law_pair ?c__law_pair ?k__law_pair ?a__law_setup ?l__law_setup ?c__law_setup ?k__law_setup ?a__law_comers ?l__law_comers ?c__law_comers ?k__law_comers ?a__law_count ?l__law_count ?c__law_count ?k__law_count ?a__law_made ?l__law_made ?c__law_made ?k__law_made ?a__law_spoilt ?l__law_spoilt ?c__law_spoilt ?k__law_spoilt ?a__law_refused ?l__law_refused ?c__law_refused ?k__law_refused ?a__law_bill_right ?l__law_bill_right ?c__law_bill_right ?k__law_bill_right ?a_law ?l_law ?c_law ?k_law ?o_DFL ?z_len ?z_isinstance ?z_all ?z_max ?z_min ?z_sum ?z_repr ?z_int ?z_bool ?z_tuple ?z_list ?z_range ?z_enumerate ?z_zip ?g_MOST_TUBS ?g_NO_AGE ?g_MOST_SEATS ?g_MOST_PORTIONS ?g_MOST_LIFE ?g_MOST_PRICE ?g_MOST_RULE_ROWS ?g_LONGEST_ROW ?g_SEAT_DEEDS ?o_SEAT_DEEDS ?g_TUB_DEEDS ?o_TUB_DEEDS ?g_EMPTY_HOUSE ?o_EMPTY_HOUSEs0 ?o_EMPTY_HOUSEs2 ?o_EMPTY_HOUSEs3 ?o_EMPTY_HOUSE ?o_DFLr ?g_HOUSE_WORDS ?o_HOUSE_WORDS ?gx_BadWhat ?gx_BadBill ?gx_ParlourError ?zx ?q1_BadWhat ?q2_BadWhat ?q3_BadWhat ?q4_BadWhat ?e1_BadWhat ?e2_BadWhat ?e4_BadWhat ?e5_BadWhat ?e8_BadWhat ?h1_BadWhat ?q1_BadBill ?q2_BadBill ?q3_BadBill ?q4_BadBill ?e1_BadBill ?e2_BadBill ?e4_BadBill ?e5_BadBill ?e8_BadBill ?h1_BadBill ?e6 ?e7 ?i_WB ?i_WW ?i_WV ?i_BB ?i_BW ?i_BV ?pc ?pn ?pt
    (case a_fitting_row => k_is); (case l_fitting_row => k_is); (case c_fitting_row => k_is); (case k_fitting_row => k_is); (case a_within => k_is); (case l_within => k_is); (case c_within => k_is); (case k_within => k_is); (case a_come_in => k_is); (case l_come_in => k_is); (case c_come_in => k_is); (case k_come_in => k_is); (case a_bench_deeds => k_is); (case l_bench_deeds => k_is); (case c_bench_deeds => k_is); (case k_bench_deeds => k_is); (case a_fill_bench => k_is); (case l_fill_bench => k_is); (case c_fill_bench => k_is); (case k_fill_bench => k_is); (case a_bench_beat => k_is); (case l_bench_beat => k_is); (case c_bench_beat => k_is); (case k_bench_beat => k_is); (case a_seated => k_is); (case l_seated => k_is); (case c_seated => k_is); (case k_seated => k_is); (case a_portions_open => k_is); (case l_portions_open => k_is); (case c_portions_open => k_is); (case k_portions_open => k_is); (case a_tub_deeds => k_is); (case l_tub_deeds => k_is); (case c_tub_deeds => k_is); (case k_tub_deeds => k_is); (case a_with_tub => k_is); (case l_with_tub => k_is); (case c_with_tub => k_is); (case k_with_tub => k_is); (case a_open_tubs => k_is); (case l_open_tubs => k_is); (case c_open_tubs => k_is); (case k_open_tubs => k_is); (case a_eaten_of => k_is); (case l_eaten_of => k_is); (case c_eaten_of => k_is); (case k_eaten_of => k_is); (case a_end_beat => k_is); (case l_end_beat => k_is); (case c_end_beat => k_is); (case k_end_beat => k_is); (case a_tub_beat => k_is); (case l_tub_beat => k_is); (case c_tub_beat => k_is); (case k_tub_beat => k_is); (case a_tubs_cost => k_is); (case l_tubs_cost => k_is); (case c_tubs_cost => k_is); (case k_tubs_cost => k_is); (case a_is_whole => k_is); (case l_is_whole => k_is); (case c_is_whole => k_is); (case k_is_whole => k_is); (case a_is_whole_in => k_is); (case l_is_whole_in => k_is); (case c_is_whole_in => k_is); (case k_is_whole_in => k_is); (case a_is_pair => k_is); (case l_is_pair => k_is); (case c_is_pair => k_is); (case k_is_pair => k_is); (case a_fault_in => k_is); (case l_fault_in => k_is); (case c_fault_in => k_is); (case k_fault_in => k_is); (case a_is_setup => k_is); (case l_is_setup => k_is); (case c_is_setup => k_is); (case k_is_setup => k_is); (case a_is_choice => k_is); (case l_is_choice => k_is); (case c_is_choice => k_is); (case k_is_choice => k_is); (case a_check_setup => k_is); (case l_check_setup => k_is); (case c_check_setup => k_is); (case k_check_setup => k_is); (case a_is_comers => k_is); (case l_is_comers => k_is); (case c_is_comers => k_is); (case k_is_comers => k_is); (case a_check_row => k_is); (case l_check_row => k_is); (case c_check_row => k_is); (case k_check_row => k_is); (case a_is_half => k_is); (case l_is_half => k_is); (case c_is_half => k_is); (case k_is_half => k_is); (case a_is_rule_row => k_is); (case l_is_rule_row => k_is); (case c_is_rule_row => k_is); (case k_is_rule_row => k_is); (case a_is_span => k_is); (case l_is_span => k_is); (case c_is_span => k_is); (case k_is_span => k_is); (case a_is_seats => k_is); (case l_is_seats => k_is); (case c_is_seats => k_is); (case k_is_seats => k_is); (case a_is_tubs => k_is); (case l_is_tubs => k_is); (case c_is_tubs => k_is); (case k_is_tubs => k_is); (case a_is_rule => k_is); (case l_is_rule => k_is); (case c_is_rule => k_is); (case k_is_rule => k_is); (case a_check_rule => k_is); (case l_check_rule => k_is); (case c_check_rule => k_is); (case k_check_rule => k_is); (case a_check_what => k_is); (case l_check_what => k_is); (case c_check_what => k_is); (case k_check_what => k_is); (case a_house_beat => k_is); (case l_house_beat => k_is); (case c_house_beat => k_is); (case k_house_beat => k_is); (case a_run_house => k_is); (case l_run_house => k_is); (case c_run_house => k_is); (case k_run_house => k_is); (case a_check_house_row => k_is); (case l_check_house_row => k_is); (case c_check_house_row => k_is); (case k_check_house_row => k_is); (case a_bills_of => k_is); (case l_bills_of => k_is); (case c_bills_of => k_is); (case k_bills_of => k_is); (case a_is_deed => k_is); (case l_is_deed => k_is); (case c_is_deed => k_is); (case k_is_deed => k_is); (case a_is_bill => k_is); (case l_is_bill => k_is); (case c_is_bill => k_is); (case k_is_bill => k_is); (case a_count_of => k_is); (case l_count_of => k_is); (case c_count_of => k_is); (case k_count_of => k_is); (case a_bill_count => k_is); (case l_bill_count => k_is); (case c_bill_count => k_is); (case k_bill_count => k_is); (case a_totals_of => k_is); (case l_totals_of => k_is); (case c_totals_of => k_is); (case k_totals_of => k_is); (case a_bill_totals => k_is); (case l_bill_totals => k_is); (case c_bill_totals => k_is); (case k_bill_totals => k_is); (case a__law_source => k_is); (case l__law_source => k_is); (case c__law_source => k_is); (case k__law_source => k_is); (case a__law_draw => k_is); (case l__law_draw => k_is); (case c__law_draw => k_is); (case k__law_draw => k_is); (case a__law_span => k_is); (case l__law_span => k_is); (case c__law_span => k_is); (case k__law_span => k_is); (case a__law_rows => k_is); (case l__law_rows => k_is); (case c__law_rows => k_is); (case k__law_rows => k_is); (case a__law_rule => k_is); (case l__law_rule => k_is); (case c__law_rule => k_is); (case k__law_rule => k_is); (case a__law_pair => k_is); (case l__law_pair => k_is); (case c__law_pair => k_is); (case k__law_pair => k_is); (case a__law_setup => k_is); (case l__law_setup => k_is); (case c__law_setup => k_is); (case k__law_setup => k_is); (case a__law_comers => k_is); (case l__law_comers => k_is); (case c__law_comers => k_is); (case k__law_comers => k_is); (case a__law_count => k_is); (case l__law_count => k_is); (case c__law_count => k_is); (case k__law_count => k_is); (case a__law_made => k_is); (case l__law_made => k_is); (case c__law_made => k_is); (case k__law_made => k_is); (case a__law_spoilt => k_is); (case l__law_spoilt => k_is); (case c__law_spoilt => k_is); (case k__law_spoilt => k_is); (case a__law_refused => k_is); (case l__law_refused => k_is); (case c__law_refused => k_is); (case k__law_refused => k_is); (case a__law_bill_right => k_is); (case l__law_bill_right => k_is); (case c__law_bill_right => k_is); (case k__law_bill_right => k_is); (case a_law => k_is); (case l_law => k_is); (case c_law => k_is); (case k_law => k_is); (case z_len => k_is); (case z_isinstance => k_is); (case z_all => k_is); (case z_max => k_is); (case z_min => k_is); (case z_sum => k_is); (case z_repr => k_is); (case z_int => k_is); (case z_bool => k_is); (case z_tuple => k_is); (case z_list => k_is); (case z_range => k_is); (case z_enumerate => k_is); (case z_zip => k_is); (case g_MOST_TUBS => k_is); (case g_NO_AGE => k_is); (case g_MOST_SEATS => k_is); (case g_MOST_PORTIONS => k_is); (case g_MOST_LIFE => k_is); (case g_MOST_PRICE => k_is); (case g_MOST_RULE_ROWS => k_is); (case g_LONGEST_ROW => k_is); (case g_SEAT_DEEDS => k_is); (case g_TUB_DEEDS => k_is); (case g_EMPTY_HOUSE => k_is); (case g_HOUSE_WORDS => k_is); (case o_HOUSE_WORDS => k_is); (case o_EMPTY_HOUSE => k_is); (case o_DFLr => k_is); (case o_EMPTY_HOUSEs3 => k_is); (case o_EMPTY_HOUSEs2 => k_is); (case o_EMPTY_HOUSEs0 => k_is); (case o_TUB_DEEDS => k_is); (case o_SEAT_DEEDS => k_is); (case o_DFL => k_is); (case gx_BadWhat => first | k_is | kernel_rfl | decide +kernel); (case gx_BadBill => first | k_is | kernel_rfl | decide +kernel); (case gx_ParlourError => first | k_is | kernel_rfl | decide +kernel); (case zx => first | k_is | kernel_rfl | decide +kernel); (case q1_BadWhat => first | k_is | kernel_rfl | decide +kernel); (case q2_BadWhat => first | k_is | kernel_rfl | decide +kernel); (case q3_BadWhat => first | k_is | kernel_rfl | decide +kernel); (case q4_BadWhat => first | k_is | kernel_rfl | decide +kernel); (case e1_BadWhat => first | k_is | kernel_rfl | decide +kernel); (case e2_BadWhat => first | k_is | kernel_rfl | decide +kernel); (case e4_BadWhat => first | k_is | kernel_rfl | decide +kernel); (case e5_BadWhat => first | k_is | kernel_rfl | decide +kernel); (case e8_BadWhat => first | k_is | kernel_rfl | decide +kernel); (case h1_BadWhat => first | k_is | kernel_rfl | decide +kernel); (case q1_BadBill => first | k_is | kernel_rfl | decide +kernel); (case q2_BadBill => first | k_is | kernel_rfl | decide +kernel); (case q3_BadBill => first | k_is | kernel_rfl | decide +kernel); (case q4_BadBill => first | k_is | kernel_rfl | decide +kernel); (case e1_BadBill => first | k_is | kernel_rfl | decide +kernel); (case e2_BadBill => first | k_is | kernel_rfl | decide +kernel); (case e4_BadBill => first | k_is | kernel_rfl | decide +kernel); (case e5_BadBill => first | k_is | kernel_rfl | decide +kernel); (case e8_BadBill => first | k_is | kernel_rfl | decide +kernel); (case h1_BadBill => first | k_is | kernel_rfl | decide +kernel); (case e6 => first | k_is | kernel_rfl | decide +kernel); (case e7 => first | k_is | kernel_rfl | decide +kernel); (case i_WB => first | k_is | kernel_rfl | decide +kernel); (case i_WW => first | k_is | kernel_rfl | decide +kernel); (case i_WV => first | k_is | kernel_rfl | decide +kernel); (case i_BB => first | k_is | kernel_rfl | decide +kernel); (case i_BW => first | k_is | kernel_rfl | decide +kernel); (case i_BV => first | k_is | kernel_rfl | decide +kernel); (case pt => exact hT8 _ List.mem_cons_self); (case pc => kernel_rfl); (case pn => first | kernel_rfl | rfl | decide +kernel)

