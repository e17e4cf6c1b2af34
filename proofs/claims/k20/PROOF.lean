import PyProof.Rows.All
import Wide.All
import OpenK.AllK
import Wide.FinOn
import HandS.ForMost
import HandS.IsInst
import HandS.Style
import HandS.TupAny
import HandS.TupMul
import HandS.Conv
import HandS.Defaults
import HandS.Wide
import HandS.Codes
import HandS.Nested
import HandS.Zip
import HandS.Lambda
import HandS.EndTab
import HandS.RaiseMore
import HandS.Dict
import HandS.Strs
import HandS.SetFor
import KE.GoesEnum
import HandS.Iter
import HandS.TryOnly
import KE.KNestM
import KE.KLam
import PySem.Challenge.RW_parlourday_k20_beats_of_the_bench
set_option Elab.async false
set_option linter.all false
set_option maxRecDepth 100000
set_option maxHeartbeats 1000000
/-! an abstract machine over data: values that never change (PyData), lists that do (by their places) -/
namespace Dat
open PySem PySem.Spec PyProof.Rows L2
mutual
inductive Dq (K : PySem.W.Frag) (H : Hp) : V → PyData → Prop
  | non : Dq K H .non .none
  | bl (b : Bool) : Dq K H (.bl b) (.bool b)
  | int (i : Int) : Dq K H (.int i) (.int i)
  | str (x : Str) : Dq K H (.str x) (.str x)
  | lst {a : Addr} {xs : List V} {ds : List PyData} (h : H a = some (.lst xs)) (g : DqAll K H xs ds) : Dq K H (.ref a) (.list ds)
  | tup {a : Addr} {xs : List V} {ds : List PyData} (h : SqT K H a xs) (g : DqAll K H xs ds) : Dq K H (.ref a) (.tuple ds)
  | dct {a : Addr} (h : H a = some (.dK [])) : Dq K H (.ref a) (.dict [])
inductive DqAll (K : PySem.W.Frag) (H : Hp) : List V → List PyData → Prop
  | nil : DqAll K H [] []
  | cons {v : V} {vs : List V} {d : PyData} {ds : List PyData} (h : Dq K H v d) (g : DqAll K H vs ds) : DqAll K H (v :: vs) (d :: ds)
end
theorem sqT_same {K : PySem.W.Frag} {H H' : Hp} {a : Addr} {xs : List V} (s : Same H H') (h : SqT K H a xs) : SqT K H' a xs := by
  rcases h with (h | ⟨o, h⟩) | h
  · exact .inl (.inl (s _ _ h))
  · exact .inl (.inr ⟨o, s _ _ h⟩)
  · exact .inr h
section
variable {K : PySem.W.Frag} {H H' : Hp}
mutual
theorem Dq.same (s : Same H H') : ∀ {v : V} {d : PyData}, Dq K H v d → Dq K H' v d
  | _, _, .non => .non
  | _, _, .bl b => .bl b
  | _, _, .int i => .int i
  | _, _, .str x => .str x
  | _, _, .lst h g => .lst (s _ _ h) (DqAll.same s g)
  | _, _, .tup h g => .tup (sqT_same s h) (DqAll.same s g)
  | _, _, .dct h => .dct (s _ _ h)
theorem DqAll.same (s : Same H H') : ∀ {vs : List V} {ds : List PyData}, DqAll K H vs ds → DqAll K H' vs ds
  | _, _, .nil => .nil
  | _, _, .cons h g => .cons (Dq.same s h) (DqAll.same s g)
end
theorem DqAll.length : ∀ {vs : List V} {ds : List PyData}, DqAll K H vs ds → vs.length = ds.length
  | _, _, .nil => rfl
  | _, _, .cons _ g => by rw [List.length_cons, List.length_cons, DqAll.length g]
theorem DqAll.get : ∀ {vs : List V} {ds : List PyData} {i : Nat} {d : PyData}, DqAll K H vs ds → ds[i]? = some d → ∃ v, vs[i]? = some v ∧ Dq K H v d
  | _, _, _, _, .nil, e => by simp at e
  | _, _, 0, _, .cons h _, e => by
    rw [List.getElem?_cons_zero] at e
    cases e
    exact ⟨_, rfl, h⟩
  | _, _, i + 1, _, .cons _ g, e => by
    rw [List.getElem?_cons_succ] at e
    obtain ⟨v, e2, h⟩ := DqAll.get g e
    exact ⟨v, by rw [List.getElem?_cons_succ]; exact e2, h⟩
theorem DqAll.getV : ∀ {vs : List V} {ds : List PyData} {i : Nat} {v : V}, DqAll K H vs ds → vs[i]? = some v → ∃ d, ds[i]? = some d ∧ Dq K H v d
  | _, _, _, _, .nil, e => by simp at e
  | _, _, 0, _, .cons h _, e => by
    rw [List.getElem?_cons_zero] at e
    cases e
    exact ⟨_, rfl, h⟩
  | _, _, i + 1, _, .cons _ g, e => by
    rw [List.getElem?_cons_succ] at e
    obtain ⟨v, e2, h⟩ := DqAll.getV g e
    exact ⟨v, by rw [List.getElem?_cons_succ]; exact e2, h⟩
theorem DqAll.app : ∀ {vs us : List V} {ds es : List PyData}, DqAll K H vs ds → DqAll K H us es → DqAll K H (vs ++ us) (ds ++ es)
  | _, _, _, _, .nil, q => q
  | _, _, _, _, .cons h g, q => .cons h (DqAll.app g q)
theorem DqAll.take : ∀ {vs : List V} {ds : List PyData} (n : Nat), DqAll K H vs ds → DqAll K H (vs.take n) (ds.take n)
  | _, _, 0, _ => by rw [List.take_zero, List.take_zero]; exact .nil
  | _, _, n + 1, .nil => by rw [List.take_nil, List.take_nil]; exact .nil
  | _, _, n + 1, .cons h g => by rw [List.take_succ_cons, List.take_succ_cons]; exact .cons h (DqAll.take n g)
theorem DqAll.drop : ∀ {vs : List V} {ds : List PyData} (n : Nat), DqAll K H vs ds → DqAll K H (vs.drop n) (ds.drop n)
  | _, _, 0, h => by rw [List.drop_zero, List.drop_zero]; exact h
  | _, _, n + 1, .nil => by rw [List.drop_nil, List.drop_nil]; exact .nil
  | _, _, n + 1, .cons h g => by rw [List.drop_succ_cons, List.drop_succ_cons]; exact DqAll.drop n g
theorem DqAll.rev : ∀ {vs : List V} {ds : List PyData}, DqAll K H vs ds → DqAll K H vs.reverse ds.reverse
  | _, _, .nil => .nil
  | _, _, .cons h g => by
    rw [List.reverse_cons, List.reverse_cons]
    exact DqAll.app (DqAll.rev g) (.cons h .nil)
theorem DqAll.ints : ∀ {ns : List Int} {vs : List V}, DqAll K H vs (ns.map PyData.int) → vs = ns.map V.int
  | [], _, h => by cases h; rfl
  | n :: r, _, h => by
    rw [List.map_cons] at h
    cases h with
    | cons h g =>
      cases h
      rw [DqAll.ints g, List.map_cons]
theorem DqAll.ofInts : ∀ {ns : List Int}, DqAll K H (ns.map V.int) (ns.map PyData.int)
  | [] => .nil
  | n :: r => .cons (.int n) DqAll.ofInts
end
/-! ### abstract values, the store of lists that change -/
inductive Av
  | dat (d : PyData)
  | ptr (p : Addr)
  | tup (as : List Av)
  | scr (ns : List Int)
  | fn (f : Addr) (os : List (Addr × HO)) (cap : List (V × PyData))
  | ty (T : String)
mutual
inductive VOk (K : PySem.W.Frag) (F : Hp) : Av → V → Prop
  | dat {d : PyData} {v : V} (h : Dq K F v d) : VOk K F (.dat d) v
  | ptr (p : Addr) : VOk K F (.ptr p) (.ref p)
  | tup {a : Addr} {as : List Av} {xs : List V} (h : F a = some (.tup xs)) (g : VAll K F as xs) : VOk K F (.tup as) (.ref a)
  | scr {a : Addr} {ns : List Int} (h : SqL K F a (ns.map V.int)) : VOk K F (.scr ns) (.ref a)
  | fn {f : Addr} {os : List (Addr × HO)} {cap : List (V × PyData)} (h : ∀ p ∈ os, F p.1 = some p.2) (g : ∀ c ∈ cap, Dq K F c.1 c.2) : VOk K F (.fn f os cap) (.ref f)
  | ty (T : String) : VOk K F (.ty T) (.ty T)
inductive VAll (K : PySem.W.Frag) (F : Hp) : List Av → List V → Prop
  | nil : VAll K F [] []
  | cons {a : Av} {as : List Av} {v : V} {vs : List V} (h : VOk K F a v) (g : VAll K F as vs) : VAll K F (a :: as) (v :: vs)
end
/-- what stands where something may change besides lists: an instance, a dict of ints and texts -/
inductive Ob
  | ins (C dx : Addr) (fs : List (Str × Av))
  | dk (kvs : List (Key × Av))
/-- the lists that may change, the instances and dicts that may -/
structure AH where
  l : Addr → Option (List Av)
  o : Addr → Option Ob
instance : CoeFun AH (fun _ => Addr → Option (List Av)) := ⟨AH.l⟩
theorem AH.ext {Ω Ω' : AH} (h1 : ∀ a, Ω.l a = Ω'.l a) (h2 : Ω.o = Ω'.o) : Ω = Ω' := by
  cases Ω
  cases Ω'
  cases h2
  congr
  exact funext h1
def AH0 : AH := ⟨fun _ => none, fun _ => none⟩
def put (Ω : AH) (p : Addr) (as : List Av) : AH := ⟨fun a => if a = p then some as else Ω a, Ω.o⟩
def del (Ω : AH) (p : Addr) : AH := ⟨fun a => if a = p then none else Ω a, Ω.o⟩
def puto (Ω : AH) (p : Addr) (u : Ob) : AH := ⟨Ω.l, fun a => if a = p then some u else Ω.o a⟩
theorem put_same {Ω : AH} {p : Addr} {as : List Av} : put Ω p as p = some as := if_pos rfl
theorem put_ne {Ω : AH} {p q : Addr} {as : List Av} (h : q ≠ p) : put Ω p as q = Ω q := if_neg h
theorem puto_same {Ω : AH} {p : Addr} {u : Ob} : (puto Ω p u).o p = some u := if_pos rfl
theorem puto_ne {Ω : AH} {p q : Addr} {u : Ob} (h : q ≠ p) : (puto Ω p u).o q = Ω.o q := if_neg h
theorem put_put {Ω : AH} {p : Addr} {as bs : List Av} : put (put Ω p as) p bs = put Ω p bs := by
  refine AH.ext (fun a => ?_) rfl
  unfold put
  dsimp only
  split <;> rfl
theorem puto_puto {Ω : AH} {p : Addr} {u v : Ob} : puto (puto Ω p u) p v = puto Ω p v := by
  refine AH.ext (fun a => rfl) (funext fun a => ?_)
  unfold puto
  dsimp only
  split <;> rfl
theorem puto_put {Ω : AH} {p q : Addr} {u : Ob} {as : List Av} : puto (put Ω p as) q u = put (puto Ω q u) p as := rfl
theorem del_put {Ω : AH} {p : Addr} {as : List Av} (h : Ω p = none) : del (put Ω p as) p = Ω := by
  refine AH.ext (fun a => ?_) rfl
  unfold del put
  dsimp only
  split
  · next e => rw [e, h]
  · rfl
theorem put_id {Ω : AH} {p : Addr} {as : List Av} (h : Ω p = some as) : put Ω p as = Ω := by
  refine AH.ext (fun a => ?_) rfl
  unfold put
  dsimp only
  split
  · next e => rw [e, h]
  · rfl
theorem puto_id {Ω : AH} {p : Addr} {u : Ob} (h : Ω.o p = some u) : puto Ω p u = Ω := by
  refine AH.ext (fun a => rfl) (funext fun a => ?_)
  unfold puto
  dsimp only
  split
  · next e => rw [e, h]
  · rfl
theorem ne_of_Ω {Ω : AH} {p q : Addr} {as : List Av} (h : Ω p = some as) (n : Ω q = none) : p ≠ q := fun e => by
  rw [e, n] at h
  cases h
/-- which tables of code objects are told -/
class Tb (K : PySem.W.Frag) where
  T : List (Addr × Str)
def ntb : Option HO → Option HO
  | some (.tbl _) => none
  | o => o
theorem ntb_of {o : Option HO} {x : HO} (e : ntb o = some x) : o = some x ∧ ∀ q, x ≠ .tbl q := by
  cases o with
  | none => cases e
  | some y => cases y <;> first | (cases e; done) | (cases e; exact ⟨rfl, fun q z => by cases z⟩)
theorem ntb_to {x : HO} (n : ∀ q, x ≠ .tbl q) : ntb (some x) = some x := by
  cases x <;> first | rfl | (exact absurd rfl (n _))
/-- what is seen of the heap besides what may change and the tables -/
def AH.Off (Ω : AH) (a : Addr) : Prop := Ω.l a = none ∧ Ω.o a = none
def Fz (Ω : AH) (H : Hp) : Hp := fun a => match Ω.l a, Ω.o a with
  | none, none => ntb (H a)
  | _, _ => none
theorem Fz_none {Ω : AH} {H : Hp} {a : Addr} (h : Ω.Off a) : Fz Ω H a = ntb (H a) := by
  unfold Fz
  rw [h.1, h.2]
theorem Fz_some {Ω : AH} {H : Hp} {a : Addr} {as : List Av} (h : Ω a = some as) : Fz Ω H a = none := by
  unfold Fz
  rw [h]
theorem Fz_someO {Ω : AH} {H : Hp} {a : Addr} {u : Ob} (h : Ω.o a = some u) : Fz Ω H a = none := by
  unfold Fz
  rw [h]
  cases Ω.l a <;> rfl
theorem Fz_of {Ω : AH} {H : Hp} {a : Addr} {o : HO} (e : Fz Ω H a = some o) : Ω.Off a ∧ H a = some o ∧ ∀ q, o ≠ .tbl q := by
  unfold Fz at e
  split at e
  · next h1 h2 => exact ⟨⟨h1, h2⟩, (ntb_of e).1, (ntb_of e).2⟩
  · cases e
theorem Fz_to {Ω : AH} {H : Hp} {a : Addr} {o : HO} (n : Ω.Off a) (e : H a = some o) (t : ∀ q, o ≠ .tbl q) : Fz Ω H a = some o := by
  rw [Fz_none n, e, ntb_to t]
theorem Fz_le {Ω : AH} {H : Hp} : Same (Fz Ω H) H := fun a o e => (Fz_of e).2.1
theorem Fz_ext {Ω : AH} {H H' : Hp} (s : LamX.ExtN H H') : Same (Fz Ω H) (Fz Ω H') := fun a o e => by
  obtain ⟨h1, h2, h3⟩ := Fz_of e
  exact Fz_to h1 (s a o h2 h3) h3
theorem Fz_same {Ω : AH} {H H' : Hp} (s : Same H H') : Same (Fz Ω H) (Fz Ω H') := Fz_ext (LamX.ExtN.of s)
/-- where the same places are off, all but one place is as it was, and that one is not seen -/
theorem Fz_eq {Ω Ω' : AH} {H H' : Hp} {p : Addr} (h : ∀ a, a ≠ p → (Ω'.l a = Ω.l a ∧ Ω'.o a = Ω.o a ∧ H' a = H a)) (h1 : Fz Ω' H' p = none) (h2 : Fz Ω H p = none) : Fz Ω' H' = Fz Ω H := by
  funext a
  by_cases e : a = p
  · rw [e, h1, h2]
  · obtain ⟨e1, e2, e3⟩ := h a e
    unfold Fz
    rw [e1, e2, e3]
theorem Fz_unset {Ω : AH} {H : Hp} {p : Addr} (n : H p = none) : Fz Ω H p = none := by
  unfold Fz
  split
  · rw [n]
    rfl
  · rfl
theorem Fz_new {Ω : AH} {H : Hp} {p : Addr} {o : HO} {as : List Av} (n : H p = none) : Fz (put Ω p as) (upd H p o) = Fz Ω H :=
  Fz_eq (fun a e => ⟨put_ne e, rfl, upd_ne e⟩) (Fz_some put_same) (Fz_unset n)
theorem Fz_newo {Ω : AH} {H : Hp} {p : Addr} {o : HO} {u : Ob} (n : H p = none) : Fz (puto Ω p u) (upd H p o) = Fz Ω H :=
  Fz_eq (fun a e => ⟨rfl, puto_ne e, upd_ne e⟩) (Fz_someO puto_same) (Fz_unset n)
theorem Fz_put {Ω : AH} {H : Hp} {p : Addr} {o : HO} {as bs : List Av} (n : Ω p = some bs) : Fz (put Ω p as) (upd H p o) = Fz Ω H :=
  Fz_eq (fun a e => ⟨put_ne e, rfl, upd_ne e⟩) (Fz_some put_same) (Fz_some n)
theorem Fz_puto {Ω : AH} {H : Hp} {p : Addr} {o : HO} {u v : Ob} (n : Ω.o p = some v) : Fz (puto Ω p u) (upd H p o) = Fz Ω H :=
  Fz_eq (fun a e => ⟨rfl, puto_ne e, upd_ne e⟩) (Fz_someO puto_same) (Fz_someO n)
theorem Fz_del {Ω : AH} {H : Hp} {p : Addr} : Same (Fz Ω H) (Fz (del Ω p) H) := fun a o e => by
  obtain ⟨n, h2, h3⟩ := Fz_of e
  have m : (del Ω p).l a = none := by
    unfold del
    dsimp only
    split
    · rfl
    · exact n.1
  exact Fz_to ⟨m, n.2⟩ h2 h3
/-- a list's own place is no table, no code object -/
theorem tabs_put {T : List (Addr × Str)} {H : Hp} {p : Addr} {xs ys : List V} (t : LamX.Tabs T H) (e : H p = some (.lst xs)) : LamX.Tabs T (upd H p (.lst ys)) := fun q hq => by
  obtain ⟨ps, h1, h2, h3⟩ := t q hq
  have ne : q.1 ≠ p := fun z => by
    rw [z, e] at h1
    cases h1
  refine ⟨ps, by rw [upd_ne ne]; exact h1, h2, fun pos cv hc => ?_⟩
  obtain ⟨c, e1, e2⟩ := h3 pos cv hc
  have nc : c ≠ p := fun z => by
    rw [z, e] at e2
    unfold LamX.CodeO at e2
    cases e2
  exact ⟨c, e1, by rw [upd_ne nc]; exact e2⟩
section
variable {K : PySem.W.Frag} {F F' : Hp}
mutual
theorem VOk.same (s : Same F F') : ∀ {a : Av} {v : V}, VOk K F a v → VOk K F' a v
  | _, _, .dat h => .dat (h.same s)
  | _, _, .ptr p => .ptr p
  | _, _, .tup h g => .tup (s _ _ h) (VAll.same s g)
  | _, _, .scr h => .scr (s.seq h)
  | _, _, .fn h g => .fn (fun p m => s _ _ (h p m)) (fun c m => (g c m).same s)
  | _, _, .ty T => .ty T
theorem VAll.same (s : Same F F') : ∀ {as : List Av} {vs : List V}, VAll K F as vs → VAll K F' as vs
  | _, _, .nil => .nil
  | _, _, .cons h g => .cons (VOk.same s h) (VAll.same s g)
end
theorem VAll.length : ∀ {as : List Av} {vs : List V}, VAll K F as vs → vs.length = as.length
  | _, _, .nil => rfl
  | _, _, .cons _ g => by rw [List.length_cons, List.length_cons, VAll.length g]
theorem VAll.get : ∀ {as : List Av} {vs : List V} {i : Nat} {a : Av}, VAll K F as vs → as[i]? = some a → ∃ v, vs[i]? = some v ∧ VOk K F a v
  | _, _, _, _, .nil, e => by simp at e
  | _, _, 0, _, .cons h _, e => by
    rw [List.getElem?_cons_zero] at e
    cases e
    exact ⟨_, rfl, h⟩
  | _, _, i + 1, _, .cons _ g, e => by
    rw [List.getElem?_cons_succ] at e
    obtain ⟨v, e2, h⟩ := VAll.get g e
    exact ⟨v, by rw [List.getElem?_cons_succ]; exact e2, h⟩
theorem VAll.app : ∀ {as bs : List Av} {vs us : List V}, VAll K F as vs → VAll K F bs us → VAll K F (as ++ bs) (vs ++ us)
  | _, _, _, _, .nil, q => q
  | _, _, _, _, .cons h g, q => .cons h (VAll.app g q)
theorem VAll.set : ∀ {as : List Av} {vs : List V} {a : Av} {v : V} (i : Nat), VAll K F as vs → VOk K F a v → VAll K F (as.set i a) (vs.set i v)
  | _, _, _, _, _, .nil, _ => .nil
  | _, _, _, _, 0, .cons _ g, k => .cons k g
  | _, _, _, _, i + 1, .cons h g, k => .cons h (VAll.set i g k)
theorem VAll.dats : ∀ {ds : List PyData} {vs : List V}, VAll K F (ds.map .dat) vs → DqAll K F vs ds
  | [], _, h => by cases h; exact .nil
  | d :: r, _, h => by
    rw [List.map_cons] at h
    cases h with
    | cons h g =>
      cases h with
      | dat h => exact .cons h (VAll.dats g)
theorem VAll.ofDats : ∀ {ds : List PyData} {vs : List V}, DqAll K F vs ds → VAll K F (ds.map .dat) vs
  | _, _, .nil => .nil
  | _, _, .cons h g => .cons (.dat h) (VAll.ofDats g)
end
/-- names and keys with their values -/
inductive PrAll (K : PySem.W.Frag) (F : Hp) {κ : Type} : List (κ × Av) → List (κ × V) → Prop
  | nil : PrAll K F [] []
  | cons {k : κ} {a : Av} {v : V} {as : List (κ × Av)} {vs : List (κ × V)} (h : VOk K F a v) (g : PrAll K F as vs) : PrAll K F ((k, a) :: as) ((k, v) :: vs)
inductive ObOk (K : PySem.W.Frag) (F : Hp) : Ob → HO → Prop
  | ins {C dx : Addr} {fs : List (Str × Av)} {vs : List (Str × V)} (h : PrAll K F fs vs) : ObOk K F (.ins C dx fs) (.ins C dx vs)
  | dk {kvs : List (Key × Av)} {vs : List (Key × V)} (h : PrAll K F kvs vs) : ObOk K F (.dk kvs) (.dK vs)
theorem PrAll.same {K : PySem.W.Frag} {F F' : Hp} (s : Same F F') {κ : Type} : ∀ {as : List (κ × Av)} {vs : List (κ × V)}, PrAll K F as vs → PrAll K F' as vs
  | _, _, .nil => .nil
  | _, _, .cons h g => .cons (h.same s) (PrAll.same s g)
theorem ObOk.same {K : PySem.W.Frag} {F F' : Hp} (s : Same F F') {u : Ob} {x : HO} : ObOk K F u x → ObOk K F' u x
  | .ins h => .ins (h.same s)
  | .dk h => .dk (h.same s)
theorem ObOk.nlst {K : PySem.W.Frag} {F : Hp} {u : Ob} {xs : List V} (h : ObOk K F u (.lst xs)) : False := by cases h
theorem ObOk.ntbl {K : PySem.W.Frag} {F : Hp} {u : Ob} {x : HO} (h : ObOk K F u x) : ∀ q, x ≠ .tbl q := by
  intro q z
  subst z
  cases h
inductive Slots (K : PySem.W.Frag) (F : Hp) : List (Option Av) → List (Option V) → Prop
  | nil : Slots K F [] []
  | no {x : Option V} {Γ : List (Option Av)} {σ : List (Option V)} (g : Slots K F Γ σ) : Slots K F (none :: Γ) (x :: σ)
  | yes {a : Av} {v : V} {Γ : List (Option Av)} {σ : List (Option V)} (h : VOk K F a v) (g : Slots K F Γ σ) : Slots K F (some a :: Γ) (some v :: σ)
section
variable {K : PySem.W.Frag} {F F' : Hp}
theorem Slots.same (s : Same F F') : ∀ {Γ : List (Option Av)} {σ : List (Option V)}, Slots K F Γ σ → Slots K F' Γ σ
  | _, _, .nil => .nil
  | _, _, .no g => .no (Slots.same s g)
  | _, _, .yes h g => .yes (h.same s) (Slots.same s g)
theorem Slots.get : ∀ {Γ : List (Option Av)} {σ : List (Option V)} {i : Nat} {a : Av}, Slots K F Γ σ → Γ[i]? = some (some a) → ∃ v, σ[i]? = some (some v) ∧ VOk K F a v
  | _, _, _, _, .nil, e => by simp at e
  | _, _, 0, _, .no _, e => by simp at e
  | _, _, 0, _, .yes h _, e => by
    rw [List.getElem?_cons_zero] at e
    cases e
    exact ⟨_, rfl, h⟩
  | _, _, i + 1, _, .no g, e => by
    rw [List.getElem?_cons_succ] at e
    obtain ⟨v, e2, h⟩ := Slots.get g e
    exact ⟨v, by rw [List.getElem?_cons_succ]; exact e2, h⟩
  | _, _, i + 1, _, .yes _ g, e => by
    rw [List.getElem?_cons_succ] at e
    obtain ⟨v, e2, h⟩ := Slots.get g e
    exact ⟨v, by rw [List.getElem?_cons_succ]; exact e2, h⟩
theorem Slots.set : ∀ {Γ : List (Option Av)} {σ : List (Option V)} {a : Av} {v : V} (i : Nat), Slots K F Γ σ → VOk K F a v → Slots K F (Γ.set i (some a)) (σ.set i (some v))
  | _, _, _, _, _, .nil, _ => .nil
  | _, _, _, _, 0, .no g, k => .yes k g
  | _, _, _, _, 0, .yes _ g, k => .yes k g
  | _, _, _, _, i + 1, .no g, k => .no (Slots.set i g k)
  | _, _, _, _, i + 1, .yes h g, k => .yes h (Slots.set i g k)
theorem Slots.clear : ∀ {Γ : List (Option Av)} {σ : List (Option V)} (i : Nat), Slots K F Γ σ → Slots K F (Γ.set i none) (σ.set i none)
  | _, _, _, .nil => .nil
  | _, _, 0, .no g => .no g
  | _, _, 0, .yes _ g => .no g
  | _, _, i + 1, .no g => .no (Slots.clear i g)
  | _, _, i + 1, .yes h g => .yes h (Slots.clear i g)
theorem Slots.start {N : List Str} : ∀ {as : List Av} {vs : List V}, VAll K F as vs → ∀ n, Slots K F (as.map some ++ List.replicate n none) (vs.map some ++ List.replicate n none)
  | _, _, .nil, 0 => .nil
  | _, _, .nil, n + 1 => .no (Slots.start (N := N) .nil n)
  | _, _, .cons h g, n => .yes h (Slots.start (N := N) g n)
end
def wipeA (Γ : List (Option Av)) : List Nat → List (Option Av)
  | [] => Γ
  | v :: vs => (wipeA Γ vs).set v none
theorem Slots.wipe {K : PySem.W.Frag} {F : Hp} {Γ : List (Option Av)} {σ : List (Option V)} (h : Slots K F Γ σ) : ∀ vs : List Nat, Slots K F (wipeA Γ vs) (L2.wipe σ vs)
  | [] => h
  | v :: vs => Slots.clear v (Slots.wipe h vs)
structure Ok (K : PySem.W.Frag) [Tb K] (F : Hp) (Ω : AH) (Γ : List (Option Av)) (σ : L2.St) (H : Hp) : Prop where
  fr : Same F (Fz Ω H)
  st : ∀ p as, Ω p = some as → ∃ xs, H p = some (.lst xs) ∧ VAll K (Fz Ω H) as xs
  sl : Slots K (Fz Ω H) Γ σ
  tb : LamX.Tabs (Tb.T (K := K)) H
  ob : ∀ p u, Ω.o p = some u → ∃ x, H p = some x ∧ ObOk K (Fz Ω H) u x
section
variable {K : PySem.W.Frag} [Tb K] {F F1 : Hp} {Ω : AH} {Γ : List (Option Av)} {σ : L2.St} {H H' : Hp} {p : Addr} {as : List Av} {xs : List V} {a : Av} {v : V} {i : Nat}
theorem Ok.same (k : Ok K F Ω Γ σ H) (s : Same H H') : Ok K F Ω Γ σ H' := by
  have s' := Fz_same (Ω := Ω) s
  refine ⟨k.fr.trans s', fun p as e => ?_, k.sl.same s', k.tb.ext s, fun p u e => ?_⟩
  · obtain ⟨xs, h1, h2⟩ := k.st p as e
    exact ⟨xs, s _ _ h1, h2.same s'⟩
  · obtain ⟨x, h1, h2⟩ := k.ob p u e
    exact ⟨x, s _ _ h1, h2.same s'⟩
/-- all but the tables stays, and these are still told -/
theorem Ok.ext (k : Ok K F Ω Γ σ H) (s : LamX.ExtN H H') (t : LamX.Tabs (Tb.T (K := K)) H') : Ok K F Ω Γ σ H' := by
  have s' := Fz_ext (Ω := Ω) s
  refine ⟨k.fr.trans s', fun p as e => ?_, k.sl.same s', t, fun p u e => ?_⟩
  · obtain ⟨xs, h1, h2⟩ := k.st p as e
    exact ⟨xs, s _ _ h1 (fun q z => by cases z), h2.same s'⟩
  · obtain ⟨x, h1, h2⟩ := k.ob p u e
    exact ⟨x, s _ _ h1 h2.ntbl, h2.same s'⟩
theorem Ok.re (k : Ok K F Ω Γ σ H) : Ok K (Fz Ω H) Ω Γ σ H := ⟨Same.refl _, k.st, k.sl, k.tb, k.ob⟩
theorem Ok.anchor (k : Ok K F1 Ω Γ σ H) (s : Same F F1) : Ok K F Ω Γ σ H := ⟨s.trans k.fr, k.st, k.sl, k.tb, k.ob⟩
theorem Ok.bare (k : Ok K F Ω Γ σ H) : Ok K F Ω [] [] H := ⟨k.fr, k.st, .nil, k.tb, k.ob⟩
theorem Ok.back {Ω' : AH} (k : Ok K F Ω Γ σ H) (j : Ok K (Fz Ω H) Ω' [] [] H') : Ok K F Ω' Γ σ H' := ⟨k.fr.trans j.fr, j.st, k.sl.same j.fr, j.tb, j.ob⟩
theorem Ok.val (k : Ok K F Ω Γ σ H) (e : Γ[i]? = some (some a)) : ∃ v, σ[i]? = some (some v) ∧ VOk K (Fz Ω H) a v := k.sl.get e
theorem Ok.set (k : Ok K F Ω Γ σ H) (h : VOk K (Fz Ω H) a v) (i : Nat) : Ok K F Ω (Γ.set i (some a)) (σ.set i (some v)) H := ⟨k.fr, k.st, k.sl.set i h, k.tb, k.ob⟩
theorem Ok.wipe (k : Ok K F Ω Γ σ H) (vs : List Nat) : Ok K F Ω (wipeA Γ vs) (L2.wipe σ vs) H := ⟨k.fr, k.st, k.sl.wipe vs, k.tb, k.ob⟩
theorem Ok.free (k : Ok K F Ω Γ σ H) (n : H p = none) : Ω p = none := by
  cases e : Ω p with
  | none => rfl
  | some as =>
    obtain ⟨xs, h1, _⟩ := k.st p as e
    rw [n] at h1
    cases h1
theorem Ok.off (k : Ok K F Ω Γ σ H) (n : H p = none) : Ω.Off p := ⟨k.free n, by
  cases e : Ω.o p with
  | none => rfl
  | some u =>
    obtain ⟨x, h1, _⟩ := k.ob p u e
    rw [n] at h1
    cases h1⟩
theorem Ok.noO (k : Ok K F Ω Γ σ H) (n : Ω p = some as) : Ω.o p = none := by
  cases e : Ω.o p with
  | none => rfl
  | some u =>
    obtain ⟨x, h1, h2⟩ := k.ob p u e
    obtain ⟨xs, h3, _⟩ := k.st p _ n
    rw [h1] at h3
    cases h3
    exact h2.nlst.elim
theorem Ok.noL {u : Ob} (k : Ok K F Ω Γ σ H) (n : Ω.o p = some u) : Ω p = none := by
  cases e : Ω p with
  | none => rfl
  | some as =>
    rw [k.noO e] at n
    cases n
theorem Ok.new (k : Ok K F Ω Γ σ H) (n : H p = none) (h : VAll K (Fz Ω H) as xs) : Ok K F (put Ω p as) Γ σ (upd H p (.lst xs)) := by
  have e := Fz_new (Ω := Ω) (o := .lst xs) (as := as) n
  refine ⟨by rw [e]; exact k.fr, fun q bs hq => ?_, by rw [e]; exact k.sl, k.tb.ext fun b o z => by rw [upd_ne (ne_of_none z n)]; exact z, fun q u hq => ?_⟩
  · rw [e]
    by_cases z : q = p
    · subst z
      rw [put_same] at hq
      cases hq
      exact ⟨xs, upd_same, h⟩
    · rw [put_ne z] at hq
      rw [upd_ne z]
      exact k.st q bs hq
  · rw [e]
    obtain ⟨x, h1, h2⟩ := k.ob q u hq
    rw [upd_ne (ne_of_none h1 n)]
    exact ⟨x, h1, h2⟩
theorem Ok.newo {u : Ob} {o : HO} (k : Ok K F Ω Γ σ H) (n : H p = none) (h : ObOk K (Fz Ω H) u o) : Ok K F (puto Ω p u) Γ σ (upd H p o) := by
  have e := Fz_newo (Ω := Ω) (o := o) (u := u) n
  refine ⟨by rw [e]; exact k.fr, fun q bs hq => ?_, by rw [e]; exact k.sl, k.tb.ext fun b o z => by rw [upd_ne (ne_of_none z n)]; exact z, fun q v hq => ?_⟩
  · rw [e]
    obtain ⟨xs, h1, h2⟩ := k.st q bs hq
    rw [upd_ne (ne_of_none h1 n)]
    exact ⟨xs, h1, h2⟩
  · rw [e]
    by_cases z : q = p
    · subst z
      rw [puto_same] at hq
      cases hq
      exact ⟨o, upd_same, h⟩
    · rw [puto_ne z] at hq
      rw [upd_ne z]
      exact k.ob q v hq
theorem Ok.put {bs : List Av} (k : Ok K F Ω Γ σ H) (n : Ω p = some bs) (h : VAll K (Fz Ω H) as xs) : Ok K F (Dat.put Ω p as) Γ σ (upd H p (.lst xs)) := by
  have e := Fz_put (Ω := Ω) (H := H) (o := .lst xs) (as := as) n
  obtain ⟨zs, hz, _⟩ := k.st p bs n
  refine ⟨by rw [e]; exact k.fr, fun q bs hq => ?_, by rw [e]; exact k.sl, tabs_put k.tb hz, fun q u hq => ?_⟩
  · rw [e]
    by_cases z : q = p
    · subst z
      rw [put_same] at hq
      cases hq
      exact ⟨xs, upd_same, h⟩
    · rw [put_ne z] at hq
      rw [upd_ne z]
      exact k.st q bs hq
  · rw [e]
    obtain ⟨x, h1, h2⟩ := k.ob q u hq
    have z : q ≠ p := fun z => by
      have hq' : Ω.o q = some u := hq
      rw [z, k.noO n] at hq'
      cases hq'
    rw [upd_ne z]
    exact ⟨x, h1, h2⟩
theorem tabs_puto {T : List (Addr × Str)} {H : Hp} {p : Addr} {x y : HO} (t : LamX.Tabs T H) (e : H p = some x) (h1 : ∀ q, x ≠ .tbl q) (h2 : ∀ c q, x ≠ LamX.CodeO c q) : LamX.Tabs T (upd H p y) := fun q hq => by
  obtain ⟨ps, g1, g2, g3⟩ := t q hq
  have ne : q.1 ≠ p := fun z => by
    rw [z, e] at g1
    cases g1
    exact h1 _ rfl
  refine ⟨ps, by rw [upd_ne ne]; exact g1, g2, fun pos cv hc => ?_⟩
  obtain ⟨c, e1, e2⟩ := g3 pos cv hc
  have nc : c ≠ p := fun z => by
    rw [z, e] at e2
    cases e2
    exact h2 _ _ rfl
  exact ⟨c, e1, by rw [upd_ne nc]; exact e2⟩
theorem ObOk.ncode {K : PySem.W.Frag} {F : Hp} {u : Ob} {x : HO} (h : ObOk K F u x) : ∀ c q, x ≠ LamX.CodeO c q := by
  intro c q z
  subst z
  unfold LamX.CodeO at h
  cases h
theorem Ok.puto {u v : Ob} {o : HO} (k : Ok K F Ω Γ σ H) (n : Ω.o p = some v) (h : ObOk K (Fz Ω H) u o) : Ok K F (Dat.puto Ω p u) Γ σ (upd H p o) := by
  have e := Fz_puto (Ω := Ω) (H := H) (o := o) (u := u) n
  obtain ⟨x, hx, gx⟩ := k.ob p v n
  refine ⟨by rw [e]; exact k.fr, fun q bs hq => ?_, by rw [e]; exact k.sl, tabs_puto k.tb hx gx.ntbl gx.ncode, fun q w hq => ?_⟩
  · rw [e]
    obtain ⟨xs, h1, h2⟩ := k.st q bs hq
    have z : q ≠ p := fun z => by
      subst z
      rw [k.noO hq] at n
      cases n
    rw [upd_ne z]
    exact ⟨xs, h1, h2⟩
  · rw [e]
    by_cases z : q = p
    · subst z
      rw [puto_same] at hq
      cases hq
      exact ⟨o, upd_same, h⟩
    · rw [puto_ne z] at hq
      rw [upd_ne z]
      exact k.ob q w hq
theorem same_new {o : HO} (n : H p = none) : Same H (upd H p o) := fun b x e => by
  rw [upd_ne (ne_of_none e n)]
  exact e
theorem Fz_at {Ω : AH} {p : Addr} {H : Hp} {o : HO} (n : Ω.Off p) (t : ntb (some o) = some o := by rfl) : Fz Ω (upd H p o) p = some o := by
  rw [Fz_none n, upd_same, t]
theorem Ok.frz {ds : List PyData} (k : Ok K F Ω Γ σ H) (e : Ω p = some (ds.map .dat)) : Ok K F (del Ω p) Γ σ H ∧ Dq K (Fz (del Ω p) H) (.ref p) (.list ds) := by
  have s : Same (Fz Ω H) (Fz (del Ω p) H) := Fz_del
  obtain ⟨xs, h1, h2⟩ := k.st p _ e
  refine ⟨⟨k.fr.trans s, fun q bs hq => ?_, k.sl.same s, k.tb, fun q u hq => ?_⟩, .lst ?_ (h2.same s).dats⟩
  · have hq' : Ω q = some bs := by
      unfold del at hq
      dsimp only at hq
      split at hq
      · cases hq
      · exact hq
    obtain ⟨ys, g1, g2⟩ := k.st q bs hq'
    exact ⟨ys, g1, g2.same s⟩
  · obtain ⟨x, g1, g2⟩ := k.ob q u hq
    exact ⟨x, g1, g2.same s⟩
  · exact Fz_to ⟨if_pos rfl, k.noO e⟩ h1 fun q z => by cases z
end
/-! ### what is wanted behind an expression, a test, arguments -/
def EW (K : PySem.W.Frag) [Tb K] (te : TE) (Γ : List (Option Av)) (Ω : AH) (P : Av → AH → Prop) : Prop :=
  ∀ (F : Hp) (σ : L2.St) (H : Hp) (Q : VK), Ok K F Ω Γ σ H → (∀ a v Ω' H', P a Ω' → Ok K F Ω' Γ σ H' → VOk K (Fz Ω' H') a v → Q v H') → te σ H Q
def TW (K : PySem.W.Frag) [Tb K] (tt : TT) (Γ : List (Option Av)) (Ω : AH) (P : Bool → AH → Prop) : Prop :=
  ∀ (F : Hp) (σ : L2.St) (H : Hp) (Q : Bool → Hp → Prop), Ok K F Ω Γ σ H → (∀ b Ω' H', P b Ω' → Ok K F Ω' Γ σ H' → Q b H') → tt σ H Q
def AW (K : PySem.W.Frag) [Tb K] (ta : TA) (Γ : List (Option Av)) (Ω : AH) (P : List Av → AH → Prop) : Prop :=
  ∀ (F : Hp) (σ : L2.St) (H : Hp) (Q : List V → Hp → Prop), Ok K F Ω Γ σ H → (∀ as vs Ω' H', P as Ω' → Ok K F Ω' Γ σ H' → VAll K (Fz Ω' H') as vs → Q vs H') → ta σ H Q
def OW (K : PySem.W.Frag) [Tb K] (to : TO) (Γ : List (Option Av)) (Ω : AH) (P : Option Int → AH → Prop) : Prop :=
  ∀ (F : Hp) (σ : L2.St) (H : Hp) (Q : Option Int → Hp → Prop), Ok K F Ω Γ σ H → (∀ o Ω' H', P o Ω' → Ok K F Ω' Γ σ H' → Q o H') → to σ H Q
/-- operations on values -/
def R2W (K : PySem.W.Frag) [Tb K] (r : R2) (a b : Av) (Ω : AH) (P : Av → AH → Prop) : Prop :=
  ∀ (F : Hp) (H : Hp) (x y : V) (Q : VK), Ok K F Ω [] [] H → VOk K (Fz Ω H) a x → VOk K (Fz Ω H) b y → (∀ c v Ω' H', P c Ω' → Ok K F Ω' [] [] H' → VOk K (Fz Ω' H') c v → Q v H') → r x y H Q
def R1W (K : PySem.W.Frag) [Tb K] (r : V → Hp → VK → Prop) (a : Av) (Ω : AH) (P : Av → AH → Prop) : Prop :=
  ∀ (F : Hp) (H : Hp) (x : V) (Q : VK), Ok K F Ω [] [] H → VOk K (Fz Ω H) a x → (∀ c v Ω' H', P c Ω' → Ok K F Ω' [] [] H' → VOk K (Fz Ω' H') c v → Q v H') → r x H Q
def RCW (K : PySem.W.Frag) [Tb K] (r : List V → Hp → VK → Prop) (as : List Av) (Ω : AH) (P : Av → AH → Prop) : Prop :=
  ∀ (F : Hp) (H : Hp) (xs : List V) (Q : VK), Ok K F Ω [] [] H → VAll K (Fz Ω H) as xs → (∀ c v Ω' H', P c Ω' → Ok K F Ω' [] [] H' → VOk K (Fz Ω' H') c v → Q v H') → r xs H Q
section
variable {K : PySem.W.Frag} [Tb K] {Γ : List (Option Av)} {Ω : AH} {P P' : Av → AH → Prop} {ta tb tc te : TE} {tt tu : TT} {tl : TA} {r r' : R2}
theorem EW.mono (h : EW K te Γ Ω P) (f : ∀ a Ω', P a Ω' → P' a Ω') : EW K te Γ Ω P' := fun F σ H Q k q => h F σ H Q k fun a v Ω' H' p => q a v Ω' H' (f a Ω' p)
/-- a list just made (or held alone) that is to change no more -/
theorem EW.frz (h : EW K te Γ Ω fun a Ω' => ∃ p ds, a = .ptr p ∧ Ω' p = some (ds.map .dat) ∧ P (.dat (.list ds)) (del Ω' p)) : EW K te Γ Ω P := fun F σ H Q k q =>
  h F σ H Q k fun a v Ω' H' ⟨p, ds, ea, e, hp⟩ k' hv => by
    subst ea
    cases hv
    obtain ⟨k2, d2⟩ := k'.frz e
    exact q _ _ _ _ hp k2 (.dat d2)
theorem e_var {i : Nat} {a : Av} (e : Γ[i]? = some (some a)) (h : P a Ω) : EW K (tVar i) Γ Ω P := fun F σ H Q k q => by
  obtain ⟨v, ev, hv⟩ := k.val e
  exact ⟨v, ev, q a v Ω H h k hv⟩
theorem e_int {i : Int} (h : P (.dat (.int i)) Ω) : EW K (tC (.int i)) Γ Ω P := fun F σ H Q k q => q _ _ Ω H h k (.dat (.int i))
theorem e_str {x : Str} (h : P (.dat (.str x)) Ω) : EW K (tC (.str x)) Γ Ω P := fun F σ H Q k q => q _ _ Ω H h k (.dat (.str x))
theorem e_bl {b : Bool} (h : P (.dat (.bool b)) Ω) : EW K (tC (.bl b)) Γ Ω P := fun F σ H Q k q => q _ _ Ω H h k (.dat (.bl b))
theorem e_non (h : P (.dat .none) Ω) : EW K (tC .non) Γ Ω P := fun F σ H Q k q => q _ _ Ω H h k (.dat .non)
/-- a constant of the written part -/
theorem e_K {v : V} {d : PyData} (hd : ∀ H, Dq K H v d) (h : P (.dat d) Ω) : EW K (tC v) Γ Ω P := fun F σ H Q k q => q _ _ Ω H h k (.dat (hd _))
theorem e_op (h : EW K ta Γ Ω fun a Ω1 => EW K tb Γ Ω1 fun b Ω2 => R2W K r a b Ω2 P) : EW K (tOp r ta tb) Γ Ω P := fun F σ H Q k q =>
  h F σ H _ k fun a v Ω1 H1 h1 k1 v1 => h1 (Fz Ω1 H1) σ H1 _ k1.re fun b w Ω2 H2 h2 k2 v2 =>
    h2 (Fz Ω2 H2) H2 v w Q k2.bare.re (v1.same k2.fr) v2 fun c u Ω3 H3 hp k3 v3 => q c u Ω3 H3 hp ((k2.anchor k1.fr).back k3) v3
theorem e_un {r1 : V → Hp → VK → Prop} (h : EW K ta Γ Ω fun a Ω1 => R1W K r1 a Ω1 P) : EW K (tUn r1 ta) Γ Ω P := fun F σ H Q k q =>
  h F σ H _ k fun a v Ω1 H1 h1 k1 v1 => h1 (Fz Ω1 H1) H1 v Q k1.bare.re v1 fun c u Ω3 H3 hp k3 v3 => q c u Ω3 H3 hp (k1.back k3) v3
theorem e_then {r1 : V → Hp → VK → Prop} (h : EW K ta Γ Ω fun a Ω1 => R1W K r1 a Ω1 P) : EW K (tThen ta r1) Γ Ω P := e_un h
theorem a_nil {P : List Av → AH → Prop} (h : P [] Ω) : AW K tNil Γ Ω P := fun F σ H Q k q => q [] [] Ω H h k .nil
theorem a_cons {P : List Av → AH → Prop} (h : EW K ta Γ Ω fun a Ω1 => AW K tl Γ Ω1 fun as Ω2 => P (a :: as) Ω2) : AW K (tCons ta tl) Γ Ω P := fun F σ H Q k q =>
  h F σ H _ k fun a v Ω1 H1 h1 k1 v1 => h1 (Fz Ω1 H1) σ H1 _ k1.re fun as vs Ω2 H2 h2 k2 v2 => q (a :: as) (v :: vs) Ω2 H2 h2 (k2.anchor k1.fr) (.cons (v1.same k2.fr) v2)
theorem e_cb {rc : List V → Hp → VK → Prop} (h : AW K tl Γ Ω fun as Ω1 => RCW K rc as Ω1 P) : EW K (tCB rc tl) Γ Ω P := fun F σ H Q k q =>
  h F σ H _ k fun as vs Ω1 H1 h1 k1 v1 => h1 (Fz Ω1 H1) H1 vs Q k1.bare.re v1 fun c u Ω3 H3 hp k3 v3 => q c u Ω3 H3 hp (k1.back k3) v3
theorem sz_of {n : Nat} (h : n ≤ 100000) : n ≤ sizeLine := Nat.le_trans h (by decide)
theorem sz_lt {n : Nat} (h : n < 100000) : n < sizeLine := Nat.lt_of_lt_of_le h (by decide)
/-- a tuple of data; a tuple that holds lists that change -/
theorem e_tup (h : AW K tl Γ Ω fun as Ω1 => ∃ ds, as = ds.map .dat ∧ ds.length ≤ 100000 ∧ P (.dat (.tuple ds)) Ω1) : EW K (tTup tl) Γ Ω P := fun F σ H Q k q =>
  h F σ H _ k fun as vs Ω1 H1 ⟨ds, e, hl, hp⟩ k1 v1 => by
    subst e
    have l1 := v1.length
    rw [List.length_map] at l1
    refine ⟨sz_of (by omega), fun p np => ?_⟩
    have s := same_new (o := .tup vs) np
    exact q _ _ Ω1 _ hp (k1.same s) (.dat (.tup (.inl (.inl (Fz_at (k1.off np)))) (v1.dats.same (Fz_same s))))
theorem e_tupA (h : AW K tl Γ Ω fun as Ω1 => as.length ≤ 100000 ∧ P (.tup as) Ω1) : EW K (tTup tl) Γ Ω P := fun F σ H Q k q =>
  h F σ H _ k fun as vs Ω1 H1 ⟨hl, hp⟩ k1 v1 => by
    have l1 := v1.length
    refine ⟨sz_of (by omega), fun p np => ?_⟩
    have s := same_new (o := .tup vs) np
    exact q _ _ Ω1 _ hp (k1.same s) (.tup (Fz_at (k1.off np)) (v1.same (Fz_same s)))
/-- a list of data that is to change no more; a list that may -/
theorem e_lst (h : AW K tl Γ Ω fun as Ω1 => ∃ ds, as = ds.map .dat ∧ ds.length ≤ 100000 ∧ P (.dat (.list ds)) Ω1) : EW K (tLst tl) Γ Ω P := fun F σ H Q k q =>
  h F σ H _ k fun as vs Ω1 H1 ⟨ds, e, hl, hp⟩ k1 v1 => by
    subst e
    have l1 := v1.length
    rw [List.length_map] at l1
    refine ⟨sz_of (by omega), fun p np => ?_⟩
    have s := same_new (o := .lst vs) np
    exact q _ _ Ω1 _ hp (k1.same s) (.dat (.lst (Fz_at (k1.off np)) (v1.dats.same (Fz_same s))))
theorem e_lstP (h : AW K tl Γ Ω fun as Ω1 => as.length ≤ 100000 ∧ ∀ p, Ω1 p = none → P (.ptr p) (put Ω1 p as)) : EW K (tLst tl) Γ Ω P := fun F σ H Q k q =>
  h F σ H _ k fun as vs Ω1 H1 ⟨hl, hp⟩ k1 v1 => by
    have l1 := v1.length
    exact ⟨sz_of (by omega), fun p np => q _ _ _ _ (hp p (k1.free np)) (k1.new np v1) (.ptr p)⟩
/-! tests -/
theorem t_test {P : Bool → AH → Prop} (h : EW K te Γ Ω fun a Ω' => ∃ b, a = .dat (.bool b) ∧ P b Ω') : TW K (tTest te) Γ Ω P := fun F σ H Q k q =>
  h F σ H _ k fun a v Ω' H' ⟨b, e, hp⟩ k' hv => by
    subst e
    cases hv with
    | dat hv =>
      cases hv
      exact ⟨b, rfl, q b Ω' H' hp k'⟩
theorem t_B {P : Bool → AH → Prop} (h : EW K te Γ Ω fun a Ω' => ∃ b, a = .dat (.bool b) ∧ P b Ω') : TW K (tB te) Γ Ω P := t_test h
theorem t_yes {P : Bool → AH → Prop} (h : P true Ω) : TW K tYes Γ Ω P := fun F σ H Q k q => q true Ω H h k
theorem t_not {P : Bool → AH → Prop} (h : TW K tt Γ Ω fun b Ω' => P (!b) Ω') : TW K (tNot tt) Γ Ω P := fun F σ H Q k q => h F σ H _ k fun b Ω' H' hp k' => q _ _ _ hp k'
theorem t_and {P : Bool → AH → Prop} (h : TW K tt Γ Ω fun b Ω1 => (b = true → TW K tu Γ Ω1 P) ∧ (b = false → P false Ω1)) : TW K (tAnd tt tu) Γ Ω P := fun F σ H Q k q =>
  h F σ H _ k fun b Ω1 H1 hp k1 => by
    cases b with
    | true => exact hp.1 rfl F σ H1 Q k1 q
    | false => exact q _ _ _ (hp.2 rfl) k1
theorem t_or {P : Bool → AH → Prop} (h : TW K tt Γ Ω fun b Ω1 => (b = true → P true Ω1) ∧ (b = false → TW K tu Γ Ω1 P)) : TW K (tOr tt tu) Γ Ω P := fun F σ H Q k q =>
  h F σ H _ k fun b Ω1 H1 hp k1 => by
    cases b with
    | true => exact q _ _ _ (hp.1 rfl) k1
    | false => exact hp.2 rfl F σ H1 Q k1 q
theorem e_andV (h : EW K ta Γ Ω fun a Ω1 => ∃ b, a = .dat (.bool b) ∧ (b = true → EW K tb Γ Ω1 P) ∧ (b = false → P (.dat (.bool false)) Ω1)) : EW K (tAndV ta tb) Γ Ω P := fun F σ H Q k q =>
  h F σ H _ k fun a v Ω1 H1 ⟨b, e, h1, h2⟩ k1 v1 => by
    subst e
    cases v1 with
    | dat v1 =>
      cases v1
      refine ⟨b, rfl, ?_⟩
      cases b with
      | true => exact h1 rfl F σ H1 Q k1 q
      | false => exact q _ _ _ _ (h2 rfl) k1 (.dat (.bl false))
theorem e_orV (h : EW K ta Γ Ω fun a Ω1 => ∃ b, a = .dat (.bool b) ∧ (b = true → P (.dat (.bool true)) Ω1) ∧ (b = false → EW K tb Γ Ω1 P)) : EW K (tOrV ta tb) Γ Ω P := fun F σ H Q k q =>
  h F σ H _ k fun a v Ω1 H1 ⟨b, e, h1, h2⟩ k1 v1 => by
    subst e
    cases v1 with
    | dat v1 =>
      cases v1
      refine ⟨b, rfl, ?_⟩
      cases b with
      | true => exact q _ _ _ _ (h1 rfl) k1 (.dat (.bl true))
      | false => exact h2 rfl F σ H1 Q k1 q
theorem e_notV (h : EW K ta Γ Ω fun a Ω1 => ∃ b, a = .dat (.bool b) ∧ P (.dat (.bool (!b))) Ω1) : EW K (tNotV ta) Γ Ω P := fun F σ H Q k q =>
  h F σ H _ k fun a v Ω1 H1 ⟨b, e, h1⟩ k1 v1 => by
    subst e
    cases v1 with
    | dat v1 =>
      cases v1
      exact ⟨b, rfl, q _ _ _ _ h1 k1 (.dat (.bl _))⟩
theorem e_if (h : TW K tt Γ Ω fun b Ω1 => (b = true → EW K ta Γ Ω1 P) ∧ (b = false → EW K tb Γ Ω1 P)) : EW K (tIf tt ta tb) Γ Ω P := fun F σ H Q k q =>
  h F σ H _ k fun b Ω1 H1 hp k1 => by
    cases b with
    | true => exact hp.1 rfl F σ H1 Q k1 q
    | false => exact hp.2 rfl F σ H1 Q k1 q
/-- a chain of two comparisons -/
theorem e_chain (h : EW K ta Γ Ω fun a Ω1 => EW K tb Γ Ω1 fun b Ω2 => R2W K r a b Ω2 fun c Ω3 => ∃ z, c = .dat (.bool z) ∧ (z = true → EW K tc Γ Ω3 fun d Ω4 => R2W K r' b d Ω4 P) ∧ (z = false → P (.dat (.bool false)) Ω3)) : EW K (tChain r r' ta tb tc) Γ Ω P := fun F σ H Q k q =>
  h F σ H _ k fun a v Ω1 H1 h1 k1 v1 => h1 (Fz Ω1 H1) σ H1 _ k1.re fun b w Ω2 H2 h2 k2 v2 =>
    h2 (Fz Ω2 H2) H2 v w _ k2.bare.re (v1.same k2.fr) v2 fun c u Ω3 H3 ⟨z, ec, g1, g2⟩ k3 v3 => by
      subst ec
      have k3' := (k2.anchor k1.fr).back k3
      cases v3 with
      | dat v3 =>
        cases v3
        refine ⟨z, rfl, ?_⟩
        cases z with
        | true =>
          exact g1 rfl (Fz Ω3 H3) σ H3 _ k3'.re fun d x Ω4 H4 h4 k4 v4 =>
            h4 (Fz Ω4 H4) H4 w x Q k4.bare.re ((v2.same k3.fr).same k4.fr) v4 fun e y Ω5 H5 hp k5 v5 => q e y Ω5 H5 hp ((k4.anchor k3'.fr).back k5) v5
        | false => exact q _ _ _ _ (g2 rfl) k3' (.dat (.bl false))
end
end Dat

set_option Elab.async false
set_option linter.all false
set_option maxRecDepth 100000
set_option maxHeartbeats 1000000
namespace Dat
open PySem PySem.Spec PyProof.Rows L2
/-! ### operations on data -/
def canFlat : PyData → Bool
  | .none => true
  | .bool _ => true
  | .int _ => true
  | .str _ => true
  | _ => false
/-- == of two flat data as the rules for single values tell it -/
def scalD : PyData → PyData → Bool
  | .none, .none => true | .none, .int _ => true | .int _, .none => true | .none, .bool _ => true | .bool _, .none => true | .none, .str _ => true | .str _, .none => true
  | .int _, .int _ => true | .bool _, .bool _ => true | .str _, .str _ => true
  | .int _, .str _ => true | .str _, .int _ => true | .bool _, .str _ => true | .str _, .bool _ => true
  | _, _ => false
def eqD : PyData → PyData → Bool
  | .none, .none => true
  | .int i, .int j => decide (i = j)
  | .bool a, .bool b => decide (a = b)
  | .str x, .str y => decide (x = y)
  | _, _ => false
section
variable {K : PySem.W.Frag} [Tb K] {H : Hp}
theorem dq_eq {x y : V} {d e : PyData} (hx : Dq K H x d) (hy : Dq K H y e) (h : scalD d e = true) : scal x y = true ∧ decide (x = y) = eqD d e := by
  cases hx <;> cases hy <;> first | (cases h; done) | (refine ⟨rfl, ?_⟩; simp [eqD])
mutual
theorem Dq.dp : ∀ {v : V} {d : PyData}, Dq K H v d → d.canLay0 = true → Dp K H v d
  | _, _, .non, _ => .non
  | _, _, .bl b, _ => .bl b
  | _, _, .int i, _ => .int i
  | _, _, .str x, _ => .str x
  | _, _, .lst h g, e => .lst (SqL.of h) (DqAll.dp g (by simpa [PyData.canLay0] using e))
  | _, _, .tup h g, e => .tup h (DqAll.dp g (by simpa [PyData.canLay0] using e))
  | _, _, .dct h, e => by simp [PyData.canLay0] at e
theorem DqAll.dp : ∀ {vs : List V} {ds : List PyData}, DqAll K H vs ds → PyData.canLayAll0 ds = true → DpAll K H vs ds
  | _, _, .nil, _ => .nil
  | _, _, .cons h g, e => by
    rw [PyData.canLayAll0, Bool.and_eq_true] at e
    exact .cons (Dq.dp h e.1) (DqAll.dp g e.2)
end
theorem dq_flat {v : V} {d : PyData} (h : Dq K H v d) (f : canFlat d = true) : flatV v = true := by
  cases h <;> first | rfl | cases f
theorem dqAll_flat : ∀ {vs : List V} {ds : List PyData}, DqAll K H vs ds → ds.all canFlat = true → vs.all flatV = true
  | _, _, .nil, _ => rfl
  | _, _, .cons h g, f => by
    rw [List.all_cons, Bool.and_eq_true] at f
    rw [List.all_cons, dq_flat h f.1, dqAll_flat g f.2]
    rfl
theorem dq_eqv {x y : V} {d e : PyData} (hx : Dq K H x d) (hy : Dq K H y e) (fd : canFlat d = true) (fe : canFlat e = true) : eqV x y = PyData.eqv d e := by
  cases hx <;> cases hy <;> first | (cases fd; done) | (cases fe; done) | (simp [eqV, PyData.eqv])
theorem dq_in {x : V} {d : PyData} (hx : Dq K H x d) (fd : canFlat d = true) : ∀ {ys : List V} {es : List PyData}, DqAll K H ys es → es.all canFlat = true → inV x ys = es.any fun e => PyData.eqv e d
  | _, _, .nil, _ => rfl
  | y :: ys, e :: es, .cons h g, f => by
    rw [List.all_cons, Bool.and_eq_true] at f
    have ih := dq_in hx fd g f.2
    show (eqV y x || inV x ys) = (PyData.eqv e d || es.any fun e => PyData.eqv e d)
    rw [ih, dq_eqv h hx f.1 fd]
end
def cutD {α : Type} (xs : List α) (lo hi : Option Int) : List α := (xs.drop (HT.sIx xs.length 0 lo)).take (HT.sIx xs.length xs.length hi - HT.sIx xs.length 0 lo)
section
variable {K : PySem.W.Frag} [Tb K] {F : Hp} {Γ : List (Option Av)} {Ω : AH} {P : Av → AH → Prop} {ta tb te : TE} {i j : Int} {d e : PyData} {ds es : List PyData} {p : Addr} {as : List Av}
theorem DqAll.cut {H : Hp} {vs : List V} (h : DqAll K H vs ds) (lo hi : Option Int) : DqAll K H (cutV vs lo hi) (cutD ds lo hi) := by
  unfold cutV cutD
  rw [h.length]
  exact (h.drop _).take _
theorem atI_dq {H : Hp} {vs : List V} (h : DqAll K H vs ds) (e : atI ds i = some d) : ∃ v, atI vs i = some v ∧ Dq K H v d := by
  unfold atI at e ⊢
  rw [h.length]
  cases q : ixN ds.length i with
  | none => rw [q] at e; cases e
  | some j =>
    rw [q] at e
    exact h.get e
theorem atI_va {H : Hp} {vs : List V} {a : Av} (h : VAll K H as vs) (e : atI as i = some a) : ∃ v, atI vs i = some v ∧ VOk K H a v := by
  unfold atI at e ⊢
  rw [h.length]
  cases q : ixN as.length i with
  | none => rw [q] at e; cases e
  | some j =>
    rw [q] at e
    exact h.get e
theorem r_I0i {f : Int → Int → Int} (h : P (.dat (.int (f i j))) Ω) : R2W K (rI0 fun i j => .int (f i j)) (.dat (.int i)) (.dat (.int j)) Ω P := fun F H x y Q k hx hy q => by
  cases hx with | dat hx => cases hy with | dat hy =>
    cases hx
    cases hy
    exact ⟨_, _, rfl, rfl, q _ _ _ _ h k (.dat (.int _))⟩
theorem r_I0b {f : Int → Int → Bool} (h : P (.dat (.bool (f i j))) Ω) : R2W K (rI0 fun i j => .bl (f i j)) (.dat (.int i)) (.dat (.int j)) Ω P := fun F H x y Q k hx hy q => by
  cases hx with | dat hx => cases hy with | dat hy =>
    cases hx
    cases hy
    exact ⟨_, _, rfl, rfl, q _ _ _ _ h k (.dat (.bl _))⟩
theorem r_Ii {C : Int → Int → Prop} {f : Int → Int → Int} (c : C i j) (h : P (.dat (.int (f i j))) Ω) : R2W K (rI C fun i j => .int (f i j)) (.dat (.int i)) (.dat (.int j)) Ω P := fun F H x y Q k hx hy q => by
  cases hx with | dat hx => cases hy with | dat hy =>
    cases hx
    cases hy
    exact ⟨_, _, rfl, rfl, c, q _ _ _ _ h k (.dat (.int _))⟩
theorem r_neg (h : P (.dat (.int (-i))) Ω) : R1W K (rU fun i => .int (-i)) (.dat (.int i)) Ω P := fun F H x Q k hx q => by
  cases hx with | dat hx =>
    cases hx
    exact ⟨_, rfl, q _ _ _ _ h k (.dat (.int _))⟩
theorem r_eq (s : scalD d e = true) (h : P (.dat (.bool (eqD d e))) Ω) : R2W K rEq (.dat d) (.dat e) Ω P := fun F H x y Q k hx hy q => by
  cases hx with | dat hx => cases hy with | dat hy =>
    obtain ⟨h1, h2⟩ := dq_eq hx hy s
    refine ⟨h1, ?_⟩
    rw [h2]
    exact q _ _ _ _ h k (.dat (.bl _))
theorem r_ne (s : scalD d e = true) (h : P (.dat (.bool (!eqD d e))) Ω) : R2W K rNe (.dat d) (.dat e) Ω P := fun F H x y Q k hx hy q => by
  cases hx with | dat hx => cases hy with | dat hy =>
    obtain ⟨h1, h2⟩ := dq_eq hx hy s
    refine ⟨h1, ?_⟩
    rw [h2]
    exact q _ _ _ _ h k (.dat (.bl _))
theorem shaped_lay (h : SeqAt.shaped d = true) : d.canLay0 = true := SeqAt.canLay_of_shaped h
theorem r_eqD (s1 : SeqAt.shaped d = true) (s2 : SeqAt.shaped e = true) (h : P (.dat (.bool (PyData.eqv d e))) Ω) : R2W K (rEqD K) (.dat d) (.dat e) Ω P := fun F H x y Q k hx hy q => by
  cases hx with | dat hx => cases hy with | dat hy =>
    exact ⟨d, e, (hx.same Fz_le).dp (shaped_lay s1), (hy.same Fz_le).dp (shaped_lay s2), s1, s2, q _ _ _ _ h k (.dat (.bl _))⟩
theorem r_neD (s1 : SeqAt.shaped d = true) (s2 : SeqAt.shaped e = true) (h : P (.dat (.bool (!PyData.eqv d e))) Ω) : R2W K (rNeD K) (.dat d) (.dat e) Ω P := fun F H x y Q k hx hy q => by
  cases hx with | dat hx => cases hy with | dat hy =>
    exact ⟨d, e, (hx.same Fz_le).dp (shaped_lay s1), (hy.same Fz_le).dp (shaped_lay s2), s1, s2, q _ _ _ _ h k (.dat (.bl _))⟩
def rIsNo : R2 := fun x y H Q => y = .non ∧ Q (.bl (decide (x = .non))) H
def rNotNo : R2 := fun x y H Q => y = .non ∧ Q (.bl (!decide (x = .non))) H
theorem op_isNo {X : Cx} : OpR X (compareOp .Is) rIsNo := op_isN
theorem op_notNo {X : Cx} : OpR X (compareOp .IsNot) rNotNo := op_notN
def isNone : PyData → Bool
  | .none => true
  | _ => false
theorem dq_none {H : Hp} {v : V} (h : Dq K H v d) : decide (v = .non) = isNone d := by
  cases h <;> simp [isNone]
theorem r_isN (h : P (.dat (.bool (isNone d))) Ω) : R2W K rIsNo (.dat d) (.dat .none) Ω P := fun F H x y Q k hx hy q => by
  cases hx with | dat hx => cases hy with | dat hy =>
    cases hy
    refine ⟨rfl, ?_⟩
    rw [dq_none hx]
    exact q _ _ _ _ h k (.dat (.bl _))
theorem r_notN (h : P (.dat (.bool (!isNone d))) Ω) : R2W K rNotNo (.dat d) (.dat .none) Ω P := fun F H x y Q k hx hy q => by
  cases hx with | dat hx => cases hy with | dat hy =>
    cases hy
    refine ⟨rfl, ?_⟩
    rw [dq_none hx]
    exact q _ _ _ _ h k (.dat (.bl _))
/-! items -/
theorem r_ixT (a : atI ds i = some d) (h : P (.dat d) Ω) : R2W K (rIxT K) (.dat (.tuple ds)) (.dat (.int i)) Ω P := fun F H x y Q k hx hy q => by
  cases hx with | dat hx => cases hy with | dat hy =>
    cases hy
    cases hx with | tup hs g =>
      obtain ⟨v, e, hv⟩ := atI_dq g a
      exact ⟨_, _, _, v, rfl, rfl, sqT_same Fz_le hs, e, q _ _ _ _ h k (.dat hv)⟩
theorem r_ixL (a : atI ds i = some d) (h : P (.dat d) Ω) : R2W K (rIxL K) (.dat (.list ds)) (.dat (.int i)) Ω P := fun F H x y Q k hx hy q => by
  cases hx with | dat hx => cases hy with | dat hy =>
    cases hy
    cases hx with | lst hs g =>
      obtain ⟨v, e, hv⟩ := atI_dq g a
      exact ⟨_, _, _, v, rfl, rfl, SqL.of (Fz_le _ _ hs), e, q _ _ _ _ h k (.dat hv)⟩
theorem r_ixP {a : Av} (o : Ω p = some as) (a' : atI as i = some a) (h : P a Ω) : R2W K (rIxL K) (.ptr p) (.dat (.int i)) Ω P := fun F H x y Q k hx hy q => by
  cases hx
  cases hy with | dat hy =>
    cases hy
    obtain ⟨xs, h1, h2⟩ := k.st p as o
    obtain ⟨v, e, hv⟩ := atI_va h2 a'
    exact ⟨p, xs, i, v, rfl, rfl, SqL.of h1, e, q _ _ _ _ h k hv⟩
theorem r_ixS {ns : List Int} {n : Int} (a : atI ns i = some n) (h : P (.dat (.int n)) Ω) : R2W K (rIxL K) (.scr ns) (.dat (.int i)) Ω P := fun F H x y Q k hx hy q => by
  cases hx with | scr hs => cases hy with | dat hy =>
    cases hy
    refine ⟨_, _, _, .int n, rfl, rfl, Same.seq Fz_le hs, ?_, q _ _ _ _ h k (.dat (.int n))⟩
    unfold atI at a ⊢
    rw [List.length_map]
    cases e : ixN ns.length i with
    | none => rw [e] at a; cases a
    | some j =>
      rw [e] at a
      show (ns.map V.int)[j]? = _
      rw [List.getElem?_map, show ns[j]? = some n from a]
      rfl
theorem r_inT {neg : Bool} (fd : canFlat d = true) (fe : ds.all canFlat = true) (h : P (.dat (.bool (if neg then !(ds.any fun e => PyData.eqv e d) else ds.any fun e => PyData.eqv e d))) Ω) : R2W K (rIn K neg) (.dat d) (.dat (.tuple ds)) Ω P := fun F H x y Q k hx hy q => by
  cases hx with | dat hx => cases hy with | dat hy => cases hy with | tup hs g =>
    refine ⟨_, _, rfl, .inr (sqT_same Fz_le hs), dq_flat hx fd, dqAll_flat g fe, ?_⟩
    rw [dq_in hx fd g fe]
    exact q _ _ _ _ h k (.dat (.bl _))
theorem r_inL {neg : Bool} (fd : canFlat d = true) (fe : ds.all canFlat = true) (h : P (.dat (.bool (if neg then !(ds.any fun e => PyData.eqv e d) else ds.any fun e => PyData.eqv e d))) Ω) : R2W K (rIn K neg) (.dat d) (.dat (.list ds)) Ω P := fun F H x y Q k hx hy q => by
  cases hx with | dat hx => cases hy with | dat hy => cases hy with | lst hs g =>
    refine ⟨_, _, rfl, .inl (SqL.of (Fz_le _ _ hs)), dq_flat hx fd, dqAll_flat g fe, ?_⟩
    rw [dq_in hx fd g fe]
    exact q _ _ _ _ h k (.dat (.bl _))
/-! sums of tuples and lists, parts -/
theorem tup_new {F : Hp} {H : Hp} {xs : List V} {Γ : List (Option Av)} {σ : L2.St} (k : Ok K F Ω Γ σ H) (np : H p = none) (g : DqAll K (Fz Ω H) xs ds) : Dq K (Fz Ω (upd H p (.tup xs))) (.ref p) (.tuple ds) :=
  .tup (.inl (.inl (Fz_at (k.off np)))) (g.same (Fz_same (same_new np)))
theorem lst_new {F : Hp} {H : Hp} {xs : List V} {Γ : List (Option Av)} {σ : L2.St} (k : Ok K F Ω Γ σ H) (np : H p = none) (g : DqAll K (Fz Ω H) xs ds) : Dq K (Fz Ω (upd H p (.lst xs))) (.ref p) (.list ds) :=
  .lst (Fz_at (k.off np)) (g.same (Fz_same (same_new np)))
theorem r_catT (hl : ds.length + es.length ≤ 100000) (h : P (.dat (.tuple (ds ++ es))) Ω) : R2W K (rCatA K) (.dat (.tuple ds)) (.dat (.tuple es)) Ω P := fun F H x y Q k hx hy q => by
  cases hx with | dat hx => cases hy with | dat hy => cases hx with | tup h1 g1 => cases hy with | tup h2 g2 =>
    have l1 := g1.length
    have l2 := g2.length
    refine ⟨_, _, _, _, rfl, rfl, sqT_same Fz_le h1, sqT_same Fz_le h2, sz_of (by omega), fun e => ?_, fun _ e => ?_, fun _ _ p np => ?_⟩
    · subst e
      cases g1
      exact q _ _ _ _ h k (.dat (.tup h2 g2))
    · subst e
      cases g2
      rw [List.append_nil] at h
      exact q _ _ _ _ h k (.dat (.tup h1 g1))
    · exact q _ _ _ _ h (k.same (same_new np)) (.dat (tup_new k np (g1.app g2)))
theorem r_catL (hl : ds.length + es.length ≤ 100000) (h : P (.dat (.list (ds ++ es))) Ω) : R2W K rCat (.dat (.list ds)) (.dat (.list es)) Ω P := fun F H x y Q k hx hy q => by
  cases hx with | dat hx => cases hy with | dat hy => cases hx with | lst h1 g1 => cases hy with | lst h2 g2 =>
    have l1 := g1.length
    have l2 := g2.length
    exact ⟨_, _, _, _, rfl, rfl, Fz_le _ _ h1, Fz_le _ _ h2, sz_of (by omega), fun p np => q _ _ _ _ h (k.same (same_new np)) (.dat (lst_new k np (g1.app g2)))⟩
/-- the first a list that may change, the sum one that may change too -/
theorem r_catPP {bs : List Av} {p2 : Addr} (o1 : Ω p = some as) (o2 : Ω p2 = some bs) (hl : as.length + bs.length ≤ 100000) (h : ∀ q, Ω q = none → P (.ptr q) (put Ω q (as ++ bs))) : R2W K rCat (.ptr p) (.ptr p2) Ω P := fun F H x y Q k hx hy q => by
  cases hx
  cases hy
  obtain ⟨xs, h1, g1⟩ := k.st p as o1
  obtain ⟨ys, h2, g2⟩ := k.st p2 bs o2
  have l1 := g1.length
  have l2 := g2.length
  exact ⟨_, _, _, _, rfl, rfl, h1, h2, sz_of (by omega), fun z nz => q _ _ _ _ (h z (k.free nz)) (k.new nz (g1.app g2)) (.ptr z)⟩
theorem VAll.ofL {H : Hp} {a : Addr} (h : Dq K H (.ref a) (.list ds)) : ∃ xs, H a = some (.lst xs) ∧ VAll K H (ds.map .dat) xs := by
  cases h with | lst h g => exact ⟨_, h, .ofDats g⟩
theorem r_catPL (o1 : Ω p = some as) (hl : as.length + ds.length ≤ 100000) (h : ∀ q, Ω q = none → P (.ptr q) (put Ω q (as ++ ds.map .dat))) : R2W K rCat (.ptr p) (.dat (.list ds)) Ω P := fun F H x y Q k hx hy q => by
  cases hx
  cases hy with | dat hy => cases hy with | lst h2 g2 =>
    obtain ⟨xs, h1, g1⟩ := k.st p as o1
    have l1 := g1.length
    have l2 := g2.length
    exact ⟨_, _, _, _, rfl, rfl, h1, Fz_le _ _ h2, sz_of (by omega), fun z nz => q _ _ _ _ (h z (k.free nz)) (k.new nz (g1.app (.ofDats g2))) (.ptr z)⟩
/-! slices -/
theorem o_no {P : Option Int → AH → Prop} (h : P none Ω) : OW K tNoPart Γ Ω P := fun F σ H Q k q => q _ _ _ h k
theorem o_some {P : Option Int → AH → Prop} (h : EW K te Γ Ω fun a Ω1 => ∃ i, a = .dat (.int i) ∧ P (some i) Ω1) : OW K (tPart te) Γ Ω P := fun F σ H Q k q =>
  h F σ H _ k fun a v Ω1 H1 ⟨i, e, hp⟩ k1 v1 => by
    subst e
    cases v1 with | dat v1 =>
      cases v1
      exact ⟨i, rfl, q _ _ _ hp k1⟩
theorem e_slT {tl th : TO} (h : EW K te Γ Ω fun a Ω1 => ∃ ds, a = .dat (.tuple ds) ∧ OW K tl Γ Ω1 fun lo Ω2 => OW K th Γ Ω2 fun hi Ω3 => P (.dat (.tuple (cutD ds lo hi))) Ω3) : EW K (tSl (rSlA K) te tl th) Γ Ω P := fun F σ H Q k q =>
  h F σ H _ k fun a v Ω1 H1 ⟨ds, e, h1⟩ k1 v1 => by
    subst e
    cases v1 with | dat v1 =>
      refine h1 (Fz Ω1 H1) σ H1 _ k1.re fun lo Ω2 H2 h2 k2 => h2 (Fz Ω2 H2) σ H2 _ k2.re fun hi Ω3 H3 h3 k3 => ?_
      have k3' := k3.anchor (k1.fr.trans k2.fr)
      have v3 := (v1.same k2.fr).same k3.fr
      cases v3 with | tup hs g =>
        have l := g.length
        refine ⟨_, _, rfl, sqT_same Fz_le hs, fun w => ?_, fun _ p np => ?_⟩
        · have e2 : cutD ds lo hi = ds := by
            unfold cutD
            rw [← l, w.1, w.2]
            rw [List.drop_zero, l]
            exact List.take_of_length_le (by omega)
          have h4 : P (.dat (.tuple (cutD ds lo hi))) Ω3 := h3
          rw [e2] at h4
          exact q _ _ _ _ h4 k3' (.dat (.tup hs g))
        · exact q _ _ _ _ h3 (k3'.same (same_new np)) (.dat (tup_new k3' np (g.cut lo hi)))
theorem e_slL {tl th : TO} (h : EW K te Γ Ω fun a Ω1 => ∃ ds, a = .dat (.list ds) ∧ OW K tl Γ Ω1 fun lo Ω2 => OW K th Γ Ω2 fun hi Ω3 => P (.dat (.list (cutD ds lo hi))) Ω3) : EW K (tSl (rSlL K) te tl th) Γ Ω P := fun F σ H Q k q =>
  h F σ H _ k fun a v Ω1 H1 ⟨ds, e, h1⟩ k1 v1 => by
    subst e
    cases v1 with | dat v1 =>
      refine h1 (Fz Ω1 H1) σ H1 _ k1.re fun lo Ω2 H2 h2 k2 => h2 (Fz Ω2 H2) σ H2 _ k2.re fun hi Ω3 H3 h3 k3 => ?_
      have k3' := k3.anchor (k1.fr.trans k2.fr)
      have v3 := (v1.same k2.fr).same k3.fr
      cases v3 with | lst hs g =>
        exact ⟨_, _, rfl, SqL.of (Fz_le _ _ hs), fun p np => q _ _ _ _ h3 (k3'.same (same_new np)) (.dat (lst_new k3' np (g.cut lo hi)))⟩
/-! ### calls of built-ins -/
def rLenQ (K : PySem.W.Frag) : List V → Hp → VK → Prop := fun xs H Q => ∃ p ys, xs = [.ref p] ∧ (SqL K H p ys ∨ SqT K H p ys) ∧ Q (.int ys.length) H
theorem cl_len {X : Cx} : CallR X (.builtin "len") (rLenQ X.K) := call_len_seq
theorem c_lenT (h : P (.dat (.int ds.length)) Ω) : RCW K (rLenQ K) [.dat (.tuple ds)] Ω P := fun F H xs Q k hx q => by
  cases hx with | cons hx g => cases g; cases hx with | dat hx => cases hx with | tup hs g =>
    refine ⟨_, _, rfl, .inr (sqT_same Fz_le hs), ?_⟩
    rw [g.length]
    exact q _ _ _ _ h k (.dat (.int _))
theorem c_lenL (h : P (.dat (.int ds.length)) Ω) : RCW K (rLenQ K) [.dat (.list ds)] Ω P := fun F H xs Q k hx q => by
  cases hx with | cons hx g => cases g; cases hx with | dat hx => cases hx with | lst hs g =>
    refine ⟨_, _, rfl, .inl (SqL.of (Fz_le _ _ hs)), ?_⟩
    rw [g.length]
    exact q _ _ _ _ h k (.dat (.int _))
theorem c_lenP (o : Ω p = some as) (h : P (.dat (.int as.length)) Ω) : RCW K (rLenQ K) [.ptr p] Ω P := fun F H xs Q k hx q => by
  cases hx with | cons hx g =>
    cases g
    cases hx
    obtain ⟨ys, h1, h2⟩ := k.st p as o
    refine ⟨p, ys, rfl, .inl (SqL.of h1), ?_⟩
    rw [h2.length]
    exact q _ _ _ _ h k (.dat (.int _))
theorem c_lenS {ns : List Int} (h : P (.dat (.int ns.length)) Ω) : RCW K (rLenQ K) [.scr ns] Ω P := fun F H xs Q k hx q => by
  cases hx with | cons hx g => cases g; cases hx with | scr hs =>
    refine ⟨_, _, rfl, .inl (Same.seq Fz_le hs), ?_⟩
    rw [List.length_map]
    exact q _ _ _ _ h k (.dat (.int _))
def rAbsQ : List V → Hp → VK → Prop := fun xs H Q => ∃ i, xs = [.int i] ∧ Q (.int (if i < 0 then -i else i)) H
theorem cl_abs {X : Cx} : CallR X (.builtin "abs") rAbsQ := call_abs
theorem c_abs (h : P (.dat (.int (if i < 0 then -i else i))) Ω) : RCW K rAbsQ [.dat (.int i)] Ω P := fun F H xs Q k hx q => by
  cases hx with | cons hx g => cases g; cases hx with | dat hx =>
    cases hx
    exact ⟨i, rfl, q _ _ _ _ h k (.dat (.int _))⟩
def rMax2Q : List V → Hp → VK → Prop := fun xs H Q => ∃ i j, xs = [.int i, .int j] ∧ Q (.int (if j > i then j else i)) H
def rMin2Q : List V → Hp → VK → Prop := fun xs H Q => ∃ i j, xs = [.int i, .int j] ∧ Q (.int (if j < i then j else i)) H
theorem cl_max2 {X : Cx} (hc : X.calm = true) : CallR X (.builtin "max") rMax2Q := call_max2 hc
theorem cl_min2 {X : Cx} (hc : X.calm = true) : CallR X (.builtin "min") rMin2Q := call_min2 hc
theorem c_max2 (h : P (.dat (.int (if j > i then j else i))) Ω) : RCW K rMax2Q [.dat (.int i), .dat (.int j)] Ω P := fun F H xs Q k hx q => by
  cases hx with | cons hx g => cases g with | cons hy g => cases g; cases hx with | dat hx => cases hy with | dat hy =>
    cases hx
    cases hy
    exact ⟨i, j, rfl, q _ _ _ _ h k (.dat (.int _))⟩
theorem c_min2 (h : P (.dat (.int (if j < i then j else i))) Ω) : RCW K rMin2Q [.dat (.int i), .dat (.int j)] Ω P := fun F H xs Q k hx q => by
  cases hx with | cons hx g => cases g with | cons hy g => cases g; cases hx with | dat hx => cases hy with | dat hy =>
    cases hx
    cases hy
    exact ⟨i, j, rfl, q _ _ _ _ h k (.dat (.int _))⟩
def rIntQ : List V → Hp → VK → Prop := fun xs H Q => (∃ i, xs = [.int i] ∧ Q (.int i) H) ∨ ∃ k, xs = [.bl k] ∧ Q (.int (if k then 1 else 0)) H
theorem cl_int {X : Cx} : CallR X (.type "int") rIntQ := call_int1
theorem c_intI (h : P (.dat (.int i)) Ω) : RCW K rIntQ [.dat (.int i)] Ω P := fun F H xs Q k hx q => by
  cases hx with | cons hx g => cases g; cases hx with | dat hx =>
    cases hx
    exact .inl ⟨i, rfl, q _ _ _ _ h k (.dat (.int _))⟩
theorem c_intB {b : Bool} (h : P (.dat (.int (if b then 1 else 0))) Ω) : RCW K rIntQ [.dat (.bool b)] Ω P := fun F H xs Q k hx q => by
  cases hx with | cons hx g => cases g; cases hx with | dat hx =>
    cases hx
    exact .inr ⟨b, rfl, q _ _ _ _ h k (.dat (.int _))⟩
theorem dq_intsL {H : Hp} {v : V} {ns : List Int} (h : Dq K H v (.list (ns.map PyData.int))) : ∃ a, v = .ref a ∧ H a = some (.lst (ns.map V.int)) := by
  cases h with | lst h g =>
    rw [g.ints] at h
    exact ⟨_, rfl, h⟩
theorem c_sum {ns : List Int} (h : P (.dat (.int ns.sum)) Ω) : RCW K (rSum K) [.dat (.list (ns.map PyData.int))] Ω P := fun F H xs Q k hx q => by
  cases hx with | cons hx g => cases g; cases hx with | dat hx =>
    obtain ⟨a, rfl, ha⟩ := dq_intsL hx
    exact ⟨a, ns, rfl, SqL.of (Fz_le _ _ ha), q _ _ _ _ h k (.dat (.int _))⟩
theorem c_max {ns : List Int} (ne : 0 < ns.length) (h : ∀ m, m ∈ ns → (∀ y, y ∈ ns → y ≤ m) → P (.dat (.int m)) Ω) : RCW K (rMax K) [.dat (.list (ns.map PyData.int))] Ω P := fun F H xs Q k hx q => by
  cases hx with | cons hx g => cases g; cases hx with | dat hx =>
    obtain ⟨a, rfl, ha⟩ := dq_intsL hx
    exact ⟨a, ns, rfl, SqL.of (Fz_le _ _ ha), ne, fun m h1 h2 => q _ _ _ _ (h m h1 h2) k (.dat (.int _))⟩
theorem c_min {ns : List Int} (ne : 0 < ns.length) (h : ∀ m, m ∈ ns → (∀ y, y ∈ ns → m ≤ y) → P (.dat (.int m)) Ω) : RCW K (rMin K) [.dat (.list (ns.map PyData.int))] Ω P := fun F H xs Q k hx q => by
  cases hx with | cons hx g => cases g; cases hx with | dat hx =>
    obtain ⟨a, rfl, ha⟩ := dq_intsL hx
    exact ⟨a, ns, rfl, SqL.of (Fz_le _ _ ha), ne, fun m h1 h2 => q _ _ _ _ (h m h1 h2) k (.dat (.int _))⟩
theorem c_sorted {ns : List Int} (l : ns.length < 64) (h : ∀ ns' : List Int, ns'.Perm ns → ns'.Pairwise (· ≤ ·) → P (.dat (.list (ns'.map PyData.int))) Ω) : RCW K (rSorted K) [.dat (.list (ns.map PyData.int))] Ω P := fun F H xs Q k hx q => by
  cases hx with | cons hx g => cases g; cases hx with | dat hx =>
    obtain ⟨a, rfl, ha⟩ := dq_intsL hx
    exact ⟨a, ns, rfl, SqL.of (Fz_le _ _ ha), l, fun ns' p h1 h2 np => q _ _ _ _ (h ns' h1 h2) (k.same (same_new np)) (.dat (lst_new k np .ofInts))⟩
theorem dq_bools : ∀ {H : Hp} {bs : List Bool} {vs : List V}, DqAll K H vs (bs.map PyData.bool) → vs = bs.map V.bl
  | _, [], _, h => by cases h; rfl
  | _, b :: r, _, h => by
    rw [List.map_cons] at h
    cases h with | cons h g =>
      cases h
      rw [dq_bools g, List.map_cons]
theorem c_all {bs : List Bool} (h : P (.dat (.bool (bs.all id))) Ω) : RCW K (rAll K) [.dat (.list (bs.map PyData.bool))] Ω P := fun F H xs Q k hx q => by
  cases hx with | cons hx g => cases g; cases hx with | dat hx => cases hx with | lst hs g =>
    rw [dq_bools g] at hs
    exact ⟨_, bs, rfl, SqL.of (Fz_le _ _ hs), q _ _ _ _ h k (.dat (.bl _))⟩
theorem c_any {bs : List Bool} (h : P (.dat (.bool (bs.any id))) Ω) : RCW K (rAny K) [.dat (.list (bs.map PyData.bool))] Ω P := fun F H xs Q k hx q => by
  cases hx with | cons hx g => cases g; cases hx with | dat hx => cases hx with | lst hs g =>
    rw [dq_bools g] at hs
    exact ⟨_, bs, rfl, SqL.of (Fz_le _ _ hs), q _ _ _ _ h k (.dat (.bl _))⟩
/-! isinstance -/
def kindD : PyData → String
  | .none => "NoneType"
  | .bool _ => "bool"
  | .int _ => "int"
  | .str _ => "str"
  | .list _ => "list"
  | .tuple _ => "tuple"
  | .dict _ => "dict"
theorem dq_ty {H : Hp} {v : V} (h : Dq K H v d) : TyX K H v (.type (kindD d)) := by
  cases h with
  | non => exact .base .non
  | bl b => exact .base (.bl b)
  | int i => exact .base (.int i)
  | str x => exact .base (.str x)
  | lst h _ => exact .base (.lst h)
  | tup h _ =>
    rcases h with (h | ⟨o, h⟩) | ⟨o, its, n, h, hc, _⟩
    · exact .base (.tup h)
    · exact .fTuple h
    · exact .kTuple h hc
  | dct h => exact .base (.dK h)
def isIntD : PyData → Bool
  | .int _ => true
  | .bool _ => true
  | _ => false
def isBoolD : PyData → Bool
  | .bool _ => true
  | _ => false
def isStrD : PyData → Bool
  | .str _ => true
  | _ => false
def isTupD : PyData → Bool
  | .tuple _ => true
  | _ => false
def isLstD : PyData → Bool
  | .list _ => true
  | _ => false
theorem kit_int : kitB (kindD d) "int" = some (isIntD d) := by cases d <;> (simp only [kindD, isIntD]; decide +kernel)
theorem kit_bool : kitB (kindD d) "bool" = some (isBoolD d) := by cases d <;> (simp only [kindD, isBoolD]; decide +kernel)
theorem kit_str : kitB (kindD d) "str" = some (isStrD d) := by cases d <;> (simp only [kindD, isStrD]; decide +kernel)
theorem kit_tuple : kitB (kindD d) "tuple" = some (isTupD d) := by cases d <;> (simp only [kindD, isTupD]; decide +kernel)
theorem kit_list : kitB (kindD d) "list" = some (isLstD d) := by cases d <;> (simp only [kindD, isLstD]; decide +kernel)
theorem e_ty {T : String} (h : P (.ty T) Ω) : EW K (tC (.ty T)) Γ Ω P := fun F σ H Q k q => q _ _ Ω H h k (.ty T)
theorem c_isi {T : String} {b : Bool} (e : kitB (kindD d) T = some b) (h : P (.dat (.bool b)) Ω) : RCW K (rIsi K) [.dat d, .ty T] Ω P := fun F H xs Q k hx q => by
  cases hx with | cons hx g => cases g with | cons hy g => cases g; cases hx with | dat hx => cases hy with | ty T =>
    exact ⟨_, _, _, _, b, rfl, .ty T, dq_ty (hx.same Fz_le), kit_ty e, q _ _ _ _ h k (.dat (.bl _))⟩
theorem c_isiP {T : String} {b : Bool} (o : Ω p = some as) (e : kitB "list" T = some b) (h : P (.dat (.bool b)) Ω) : RCW K (rIsi K) [.ptr p, .ty T] Ω P := fun F H xs Q k hx q => by
  cases hx with | cons hx g => cases g with | cons hy g =>
    cases g
    cases hx
    cases hy with | ty T =>
      obtain ⟨ys, h1, h2⟩ := k.st p as o
      exact ⟨_, _, _, _, b, rfl, .ty T, .base (.lst h1), kit_ty e, q _ _ _ _ h k (.dat (.bl _))⟩
/-! tuple(x), list(x) -/
theorem r_tupL (h : P (.dat (.tuple ds)) Ω) : R1W K (kTup K) (.dat (.list ds)) Ω P := fun F H x Q k hx q => by
  cases hx with | dat hx => cases hx with | lst hs g =>
    exact .inl ⟨_, _, rfl, SqL.of (Fz_le _ _ hs), fun p np => q _ _ _ _ h (k.same (same_new np)) (.dat (tup_new k np g))⟩
theorem r_tupT (h : P (.dat (.tuple ds)) Ω) : R1W K (kTup K) (.dat (.tuple ds)) Ω P := fun F H x Q k hx q => by
  cases hx with | dat hx => cases hx with | tup hs g =>
    exact .inr ⟨_, _, rfl, sqT_same Fz_le hs, q _ _ _ _ h k (.dat (.tup hs g))⟩
theorem r_tupP (o : Ω p = some (ds.map .dat)) (h : P (.dat (.tuple ds)) (del Ω p)) : R1W K (kTup K) (.ptr p) Ω P := fun F H x Q k hx q => by
  cases hx
  obtain ⟨k2, d2⟩ := k.frz o
  cases d2 with | lst hs g =>
    exact .inl ⟨_, _, rfl, SqL.of (Fz_le _ _ hs), fun u nu => q _ _ _ _ h (k2.same (same_new nu)) (.dat (tup_new k2 nu g))⟩
def rListQ (K : PySem.W.Frag) : List V → Hp → VK → Prop := fun xs H Q => ∃ p ys, xs = [.ref p] ∧ (SqL K H p ys ∨ SqT K H p ys) ∧ ∀ l, H l = none → Q (.ref l) (upd H l (.lst ys))
theorem cl_list {X : Cx} : CallR X (.type "list") (rListQ X.K) := call_list_of
theorem c_listT (h : P (.dat (.list ds)) Ω) : RCW K (rListQ K) [.dat (.tuple ds)] Ω P := fun F H xs Q k hx q => by
  cases hx with | cons hx g => cases g; cases hx with | dat hx => cases hx with | tup hs g =>
    exact ⟨_, _, rfl, .inr (sqT_same Fz_le hs), fun l nl => q _ _ _ _ h (k.same (same_new nl)) (.dat (lst_new k nl g))⟩
theorem c_listL (h : P (.dat (.list ds)) Ω) : RCW K (rListQ K) [.dat (.list ds)] Ω P := fun F H xs Q k hx q => by
  cases hx with | cons hx g => cases g; cases hx with | dat hx => cases hx with | lst hs g =>
    exact ⟨_, _, rfl, .inl (SqL.of (Fz_le _ _ hs)), fun l nl => q _ _ _ _ h (k.same (same_new nl)) (.dat (lst_new k nl g))⟩
theorem c_listTP (h : ∀ l, Ω l = none → P (.ptr l) (put Ω l (ds.map .dat))) : RCW K (rListQ K) [.dat (.tuple ds)] Ω P := fun F H xs Q k hx q => by
  cases hx with | cons hx g => cases g; cases hx with | dat hx => cases hx with | tup hs g =>
    exact ⟨_, _, rfl, .inr (sqT_same Fz_le hs), fun l nl => q _ _ _ _ (h l (k.free nl)) (k.new nl (.ofDats g)) (.ptr l)⟩
theorem c_listLP (h : ∀ l, Ω l = none → P (.ptr l) (put Ω l (ds.map .dat))) : RCW K (rListQ K) [.dat (.list ds)] Ω P := fun F H xs Q k hx q => by
  cases hx with | cons hx g => cases g; cases hx with | dat hx => cases hx with | lst hs g =>
    exact ⟨_, _, rfl, .inl (SqL.of (Fz_le _ _ hs)), fun l nl => q _ _ _ _ (h l (k.free nl)) (k.new nl (.ofDats g)) (.ptr l)⟩
end
end Dat

set_option Elab.async false
set_option linter.all false
set_option maxRecDepth 100000
set_option maxHeartbeats 1000000
namespace Dat
open PySem PySem.Spec PyProof.Rows L2
/-! ### targets -/
def GW (K : PySem.W.Frag) [Tb K] (g : TG) (a : Av) (Γ : List (Option Av)) (Ω : AH) (P : List (Option Av) → AH → Prop) : Prop :=
  ∀ (F : Hp) (σ : L2.St) (H : Hp) (v : V) (Q : L2.St → Hp → Prop), Ok K F Ω Γ σ H → VOk K (Fz Ω H) a v → (∀ Γ' σ' Ω' H', P Γ' Ω' → Ok K F Ω' Γ' σ' H' → Q σ' H') → g v σ H Q
def GsW (K : PySem.W.Frag) [Tb K] (g : TGs) (as : List Av) (Γ : List (Option Av)) (Ω : AH) (P : List (Option Av) → AH → Prop) : Prop :=
  ∀ (F : Hp) (σ : L2.St) (H : Hp) (vs : List V) (Q : L2.St → Hp → Prop), Ok K F Ω Γ σ H → VAll K (Fz Ω H) as vs → (∀ Γ' σ' Ω' H', P Γ' Ω' → Ok K F Ω' Γ' σ' H' → Q σ' H') → g vs σ H Q
structure EndA where
  nx : List (Option Av) → AH → Prop
  rt : Av → AH → Prop
  bk : List (Option Av) → AH → Prop := fun _ _ => False
  ct : List (Option Av) → AH → Prop := fun _ _ => False
structure EndOk (K : PySem.W.Frag) [Tb K] (F : Hp) (E : EndA) (D : Ends) : Prop where
  nx : ∀ Γ σ Ω H, E.nx Γ Ω → Ok K F Ω Γ σ H → D.nx σ H
  rt : ∀ a v Ω H, E.rt a Ω → Ok K F Ω [] [] H → VOk K (Fz Ω H) a v → D.rt v H
  bk : ∀ Γ σ Ω H, E.bk Γ Ω → Ok K F Ω Γ σ H → D.bk σ H
  ct : ∀ Γ σ Ω H, E.ct Γ Ω → Ok K F Ω Γ σ H → D.ct σ H
def SW (K : PySem.W.Frag) [Tb K] (ts : TS) (Γ : List (Option Av)) (Ω : AH) (E : EndA) : Prop :=
  ∀ (F : Hp) (σ : L2.St) (H : Hp) (D : Ends), Ok K F Ω Γ σ H → EndOk K F E D → ts D σ H
theorem EndOk.anchor {K : PySem.W.Frag} [Tb K] {F F1 : Hp} {E : EndA} {D : Ends} (e : EndOk K F E D) (s : Same F F1) : EndOk K F1 E D :=
  ⟨fun Γ σ Ω H h k => e.nx Γ σ Ω H h (k.anchor s), fun a v Ω H h k => e.rt a v Ω H h (k.anchor s), fun Γ σ Ω H h k => e.bk Γ σ Ω H h (k.anchor s), fun Γ σ Ω H h k => e.ct Γ σ Ω H h (k.anchor s)⟩
section
variable {K : PySem.W.Frag} [Tb K] {Γ : List (Option Av)} {Ω : AH} {E : EndA} {te ta tb : TE} {t u w : TS} {tt : TT} {g : TG} {gs : TGs} {tl : TA} {i j : Nat} {a : Av} {as : List Av} {ds : List PyData}
theorem g_name {P : List (Option Av) → AH → Prop} (h : P (Γ.set i (some a)) Ω) : GW K (gName i) a Γ Ω P := fun F σ H v Q k hv q => q _ _ _ _ h (k.set hv i)
theorem g_tup {n : Nat} {P : List (Option Av) → AH → Prop} (l : ds.length = n) (h : GsW K gs (ds.map .dat) Γ Ω P) : GW K (gTup K n gs) (.dat (.tuple ds)) Γ Ω P := fun F σ H v Q k hv q => by
  cases hv with | dat hv => cases hv with | tup hs g =>
    exact ⟨_, _, rfl, sqT_same Fz_le hs, by rw [g.length, l], h F σ H _ Q k (.ofDats g) q⟩
theorem g_tupA {n : Nat} {P : List (Option Av) → AH → Prop} (l : as.length = n) (h : GsW K gs as Γ Ω P) : GW K (gTup K n gs) (.tup as) Γ Ω P := fun F σ H v Q k hv q => by
  cases hv with | tup hs g =>
    exact ⟨_, _, rfl, SqT.of (Fz_le _ _ hs), by rw [g.length, l], h F σ H _ Q k g q⟩
theorem gs_nil {P : List (Option Av) → AH → Prop} (h : P Γ Ω) : GsW K gNil [] Γ Ω P := fun F σ H vs Q k hv q => by
  cases hv
  exact ⟨rfl, q _ _ _ _ h k⟩
theorem gs_cons {P : List (Option Av) → AH → Prop} (h : GW K g a Γ Ω fun Γ1 Ω1 => Ω1 = Ω ∧ GsW K gs as Γ1 Ω1 P) : GsW K (gCons g gs) (a :: as) Γ Ω P := fun F σ H vs Q k hv q => by
  cases hv with | cons hv hr =>
    exact ⟨_, _, rfl, h (Fz Ω H) σ H _ _ k.re hv fun Γ1 σ1 Ω1 H1 ⟨e, h1⟩ k1 => h1 F σ1 H1 _ Q (k1.anchor k.fr) (hr.same k1.fr) q⟩
/-! ### statements -/
theorem s_next (h : E.nx Γ Ω) : SW K tNext Γ Ω E := fun F σ H D k e => e.nx _ _ _ _ h k
theorem s_seq (h : SW K t Γ Ω { E with nx := fun Γ' Ω' => SW K u Γ' Ω' E }) : SW K (tSeq t u) Γ Ω E := fun F σ H D k e =>
  h F σ H { D with nx := u D } k ⟨fun Γ' σ' Ω' H' h' k' => h' F σ' H' D k' e, e.rt, e.bk, e.ct⟩
theorem s_cut (M : List (Option Av) → AH → Prop) (h : SW K t Γ Ω { E with nx := M }) (h2 : ∀ Γ' Ω', M Γ' Ω' → SW K u Γ' Ω' E) : SW K (C8.tCut t u) Γ Ω E := fun F σ H D k e =>
  ⟨fun σ' H' => ∃ Γ' Ω', M Γ' Ω' ∧ Ok K F Ω' Γ' σ' H', h F σ H _ k ⟨fun Γ' σ' Ω' H' hm k' => ⟨Γ', Ω', hm, k'⟩, e.rt, e.bk, e.ct⟩, fun σ' H' ⟨Γ', Ω', hm, k'⟩ => h2 Γ' Ω' hm F σ' H' D k' e⟩
theorem s_seqM (M : List (Option Av) → AH → Prop) (h : SW K t Γ Ω { E with nx := M }) (h2 : ∀ Γ' Ω', M Γ' Ω' → SW K u Γ' Ω' E) : SW K (tSeq t u) Γ Ω E := fun F σ H D k e =>
  h F σ H { D with nx := u D } k ⟨fun Γ' σ' Ω' H' hm k' => h2 Γ' Ω' hm F σ' H' D k' e, e.rt, e.bk, e.ct⟩
theorem SW.mono {E' : EndA} (h : SW K t Γ Ω E) (n : ∀ Γ' Ω', E.nx Γ' Ω' → E'.nx Γ' Ω') (r : ∀ a Ω', E.rt a Ω' → E'.rt a Ω') (b : ∀ Γ' Ω', E.bk Γ' Ω' → E'.bk Γ' Ω') (c : ∀ Γ' Ω', E.ct Γ' Ω' → E'.ct Γ' Ω') : SW K t Γ Ω E' := fun F σ H D k e =>
  h F σ H D k ⟨fun Γ' σ' Ω' H' z => e.nx _ _ _ _ (n _ _ z), fun a v Ω' H' z => e.rt _ _ _ _ (r _ _ z), fun Γ' σ' Ω' H' z => e.bk _ _ _ _ (b _ _ z), fun Γ' σ' Ω' H' z => e.ct _ _ _ _ (c _ _ z)⟩
theorem s_asgG (h : EW K te Γ Ω fun a Ω1 => GW K g a Γ Ω1 E.nx) : SW K (tAsg te g) Γ Ω E := fun F σ H D k e =>
  h F σ H _ k fun a v Ω1 H1 h1 k1 v1 => h1 F σ H1 v D.nx k1 v1 fun Γ' σ' Ω' H' h' k' => e.nx _ _ _ _ h' k'
theorem s_asg (h : EW K te Γ Ω fun a Ω1 => E.nx (Γ.set i (some a)) Ω1) : SW K (tAsg te (gName i)) Γ Ω E := fun F σ H D k e =>
  h F σ H _ k fun a v Ω1 H1 h1 k1 v1 => e.nx _ _ _ _ h1 (k1.set v1 i)
theorem s_par (h : AW K tl Γ Ω fun as Ω1 => ∃ a b, as = [a, b] ∧ E.nx ((Γ.set i (some a)).set j (some b)) Ω1) : SW K (tPar i j tl) Γ Ω E := fun F σ H D k e =>
  h F σ H _ k fun as vs Ω1 H1 ⟨a, b, ea, h1⟩ k1 v1 => by
    subst ea
    cases v1 with | cons va v1 => cases v1 with | cons vb v1 =>
      cases v1
      exact ⟨_, _, rfl, e.nx _ _ _ _ h1 ((k1.set va i).set vb j)⟩
theorem s_aug {f : Int → Int → Int} {x : Int} (hx : Γ[i]? = some (some (.dat (.int x)))) (h : EW K te Γ Ω fun a Ω1 => ∃ y, a = .dat (.int y) ∧ E.nx (Γ.set i (some (.dat (.int (f x y))))) Ω1) : SW K (tAug i te (ipI f)) Γ Ω E := fun F σ H D k e => by
  obtain ⟨v, ev, hv⟩ := k.val hx
  cases hv with | dat hv =>
    cases hv
    refine ⟨_, ev, h F σ H _ k fun a v Ω1 H1 ⟨y, ea, h1⟩ k1 v1 => ?_⟩
    subst ea
    cases v1 with | dat v1 =>
      cases v1
      exact ⟨x, y, rfl, rfl, e.nx _ _ _ _ h1 (k1.set (.dat (.int _)) i)⟩
theorem s_drop (h : EW K te Γ Ω fun _ Ω1 => E.nx Γ Ω1) : SW K (tDrop te) Γ Ω E := fun F σ H D k e => h F σ H _ k fun a v Ω1 H1 h1 k1 v1 => e.nx _ _ _ _ h1 k1
theorem s_ret (h : EW K te Γ Ω E.rt) : SW K (tRet te) Γ Ω E := fun F σ H D k e => h F σ H _ k fun a v Ω1 H1 h1 k1 v1 => e.rt _ _ _ _ h1 k1.bare v1
theorem s_retN (h : E.rt (.dat .none) Ω) : SW K tRetN Γ Ω E := fun F σ H D k e => e.rt _ _ _ _ h k.bare (.dat .non)
theorem s_brk (h : E.bk Γ Ω) : SW K tBreak Γ Ω E := fun F σ H D k e => e.bk _ _ _ _ h k
theorem s_cont (h : E.ct Γ Ω) : SW K tCont Γ Ω E := fun F σ H D k e => e.ct _ _ _ _ h k
theorem s_if (h : TW K tt Γ Ω fun b Ω1 => (b = true → SW K t Γ Ω1 E) ∧ (b = false → SW K u Γ Ω1 E)) : SW K (tIfS tt t u) Γ Ω E := fun F σ H D k e =>
  h F σ H _ k fun b Ω1 H1 hp k1 => by
    cases b with
    | true => exact hp.1 rfl F σ H1 D k1 e
    | false => exact hp.2 rfl F σ H1 D k1 e
/-- xs.append(e) -/
theorem e_app {P : Av → AH → Prop} (h : EW K ta Γ Ω fun a Ω1 => ∃ p, a = .ptr p ∧ (∃ bs, Ω1 p = some bs) ∧ AW K tl Γ Ω1 fun cs Ω2 => ∃ b as, cs = [b] ∧ Ω2 p = some as ∧ as.length < 100000 ∧ P (.dat .none) (put Ω2 p (as ++ [b]))) : EW K (tBM K "list" rAppend ta tl) Γ Ω P := fun F σ H Q k q =>
  h F σ H _ k fun a v Ω1 H1 ⟨p, ea, ⟨bs, eb⟩, h1⟩ k1 v1 => by
    subst ea
    cases v1
    obtain ⟨zs, hz, _⟩ := k1.st p bs eb
    refine ⟨.inl ⟨rfl, _, SqL.of hz⟩, h1 F σ H1 _ k1 fun cs vs Ω2 H2 ⟨b, as, ec, e2, l, hp⟩ k2 v2 => ?_⟩
    subst ec
    cases v2 with | cons vb v2 =>
      cases v2
      obtain ⟨xs, hx, g⟩ := k2.st p as e2
      have lx := g.length
      exact ⟨p, xs, _, rfl, rfl, hx, sz_lt (by omega), q _ _ _ _ hp (k2.put e2 (g.app (.cons vb .nil))) (.dat .non)⟩
/-- xs[i] = e -/
theorem s_setL (h : EW K te Γ Ω fun a Ω1 => EW K ta Γ Ω1 fun o Ω2 => ∃ p, o = .ptr p ∧ EW K tb Γ Ω2 fun c Ω3 => ∃ (z : Int) (as : List Av) (j : Nat), c = .dat (.int z) ∧ Ω3 p = some as ∧ ixN as.length z = some j ∧ E.nx Γ (put Ω3 p (as.set j a))) : SW K (tAsg te (gSub ta tb rSetL)) Γ Ω E := fun F σ H D k e =>
  h F σ H _ k fun a v Ω1 H1 h1 k1 v1 => h1 (Fz Ω1 H1) σ H1 _ k1.re fun o x Ω2 H2 ⟨p, eo, h2⟩ k2 v2 => by
    subst eo
    cases v2
    refine h2 (Fz Ω2 H2) σ H2 _ k2.re fun c y Ω3 H3 ⟨z, as, jj, ec, ep, ej, hn⟩ k3 v3 => ?_
    subst ec
    cases v3 with | dat v3 =>
      cases v3
      obtain ⟨xs, hx, g⟩ := k3.st p as ep
      refine ⟨p, xs, z, jj, rfl, rfl, hx, ?_, e.nx _ _ _ _ hn ((k3.anchor (k1.fr.trans k2.fr)).put ep (g.set jj ((v1.same k2.fr).same k3.fr)))⟩
      rw [g.length]
      exact ej
/-! ### walks -/
structure WalkA (K : PySem.W.Frag) [Tb K] (F : Hp) (J : It) (as : List Av) : Prop where
  go : ∀ (Ω : AH) (H : Hp), Ok K F Ω [] [] H → ∀ i a, as[i]? = some a → J.go i H ∧ ∀ x H', J.yld i H x H' → Same H H' ∧ VOk K (Fz Ω H') a x
  stop : ∀ (Ω : AH) (H : Hp), Ok K F Ω [] [] H → J.stop as.length H
def IW (K : PySem.W.Frag) [Tb K] (wi : TI) (Γ : List (Option Av)) (Ω : AH) (P : List Av → AH → Prop) : Prop :=
  ∀ (F : Hp) (σ : L2.St) (H : Hp) (R : It → Hp → Prop), Ok K F Ω Γ σ H → (∀ as Ω' H' J, P as Ω' → Ok K F Ω' Γ σ H' → WalkA K (Fz Ω' H') J as → R J H') → wi σ H R
theorem walk_t {F : Hp} {a : Addr} {xs : List V} (h : SqT K F a xs) (g : DqAll K F xs ds) : WalkA K F (Itt K a) (ds.map .dat) := by
  constructor
  · intro Ω H k i b e
    rw [List.getElem?_map] at e
    cases ed : ds[i]? with
    | none => rw [ed] at e; cases e
    | some d =>
      rw [ed] at e
      cases e
      obtain ⟨v, ev, hv⟩ := g.get ed
      have hs : SqT K H a xs := sqT_same (k.fr.trans Fz_le) h
      refine ⟨⟨xs, v, hs, ev⟩, fun x H' hy => ?_⟩
      obtain ⟨rfl, f⟩ := hy
      have := f xs hs
      rw [ev] at this
      cases this
      exact ⟨Same.refl _, .dat (hv.same k.fr)⟩
  · intro Ω H k
    rw [List.length_map]
    exact ⟨xs, sqT_same (k.fr.trans Fz_le) h, by rw [g.length]; exact Nat.le_refl _⟩
theorem walk_l {F : Hp} {a : Addr} {xs : List V} (h : F a = some (.lst xs)) (g : DqAll K F xs ds) : WalkA K F (Itl K a) (ds.map .dat) := by
  constructor
  · intro Ω H k i b e
    rw [List.getElem?_map] at e
    cases ed : ds[i]? with
    | none => rw [ed] at e; cases e
    | some d =>
      rw [ed] at e
      cases e
      obtain ⟨v, ev, hv⟩ := g.get ed
      have hs : SqL K H a xs := SqL.of ((k.fr.trans Fz_le) _ _ h)
      refine ⟨⟨xs, v, hs, ev⟩, fun x H' hy => ?_⟩
      obtain ⟨rfl, f⟩ := hy
      have := f xs hs
      rw [ev] at this
      cases this
      exact ⟨Same.refl _, .dat (hv.same k.fr)⟩
  · intro Ω H k
    rw [List.length_map]
    exact ⟨xs, SqL.of ((k.fr.trans Fz_le) _ _ h), by rw [g.length]; exact Nat.le_refl _⟩
def rngA (lo : Int) (n : Nat) : List Av := (List.range n).map fun k => .dat (.int (lo + (k : Nat)))
theorem walk_r {F : Hp} (lo : Int) (n : Nat) : WalkA K F (Itr lo n) (rngA lo n) := by
  constructor
  · intro Ω H k i b e
    unfold rngA at e
    rw [List.getElem?_map] at e
    by_cases hi : i < n
    · rw [List.getElem?_range hi] at e
      cases e
      exact ⟨hi, fun x H' hy => by
        obtain ⟨rfl, rfl⟩ := hy
        exact ⟨Same.refl _, .dat (.int _)⟩⟩
    · rw [List.getElem?_eq_none (by rw [List.length_range]; omega)] at e
      cases e
  · intro Ω H k
    unfold rngA
    rw [List.length_map, List.length_range]
    exact Nat.le_refl _
theorem i_tup {P : List Av → AH → Prop} (h : EW K te Γ Ω fun a Ω1 => ∃ ds, a = .dat (.tuple ds) ∧ P (ds.map .dat) Ω1) : IW K (iTup K te) Γ Ω P := fun F σ H R k q =>
  h F σ H _ k fun a v Ω1 H1 ⟨ds, e, hp⟩ k1 v1 => by
    subst e
    cases v1 with | dat v1 => cases v1 with | tup hs g =>
      exact ⟨_, rfl, ⟨_, sqT_same Fz_le hs⟩, q _ _ _ _ hp k1 (walk_t hs g)⟩
theorem i_list {P : List Av → AH → Prop} (h : EW K te Γ Ω fun a Ω1 => ∃ ds, a = .dat (.list ds) ∧ P (ds.map .dat) Ω1) : IW K (iList K te) Γ Ω P := fun F σ H R k q =>
  h F σ H _ k fun a v Ω1 H1 ⟨ds, e, hp⟩ k1 v1 => by
    subst e
    cases v1 with | dat v1 => cases v1 with | lst hs g =>
      exact ⟨_, rfl, ⟨_, SqL.of (Fz_le _ _ hs)⟩, q _ _ _ _ hp k1 (walk_l hs g)⟩
theorem i_rng1 {P : List Av → AH → Prop} (h : AW K tl Γ Ω fun as Ω1 => ∃ n : Int, as = [.dat (.int n)] ∧ (-(2 ^ 62) ≤ n ∧ n < 2 ^ 62) ∧ P (rngA 0 n.toNat) Ω1) : IW K (iRng1 tl) Γ Ω P := fun F σ H R k q =>
  h F σ H _ k fun as vs Ω1 H1 ⟨n, e, b, hp⟩ k1 v1 => by
    subst e
    cases v1 with | cons va v1 => cases v1; cases va with | dat va =>
      cases va
      exact ⟨n, rfl, b.1, b.2, q _ _ _ _ hp k1 (walk_r 0 n.toNat)⟩
theorem i_rng2 {P : List Av → AH → Prop} (h : AW K tl Γ Ω fun as Ω1 => ∃ lo n : Int, as = [.dat (.int lo), .dat (.int n)] ∧ (-(2 ^ 62) ≤ lo ∧ lo < 2 ^ 62 ∧ -(2 ^ 62) ≤ n ∧ n < 2 ^ 62) ∧ P (rngA lo (n - lo).toNat) Ω1) : IW K (iRng2 tl) Γ Ω P := fun F σ H R k q =>
  h F σ H _ k fun as vs Ω1 H1 ⟨lo, n, e, b, hp⟩ k1 v1 => by
    subst e
    cases v1 with | cons va v1 => cases v1 with | cons vb v1 => cases v1; cases va with | dat va => cases vb with | dat vb =>
      cases va
      cases vb
      exact ⟨lo, n, rfl, b, q _ _ _ _ hp k1 (walk_r lo _)⟩
/-- for: a word of the turn over the abstract state -/
theorem s_for {wi : TI} (M : List Av → Nat → List (Option Av) → AH → Prop) (h : IW K wi Γ Ω fun as Ω1 => M as 0 Γ Ω1 ∧
      (∀ i a Γ' Ω', as[i]? = some a → M as i Γ' Ω' → GW K g a Γ' Ω' fun Γ2 Ω2 => SW K t Γ2 Ω2 { E with nx := M as (i + 1), ct := M as (i + 1), bk := E.nx }) ∧ ∀ Γ' Ω', M as as.length Γ' Ω' → E.nx Γ' Ω') : SW K (tFor wi g t) Γ Ω E := fun F σ H D k e =>
  h F σ H _ k fun as Ω1 H1 J ⟨h0, hs, hd⟩ k1 wk => by
    have e1 := e.anchor k1.fr
    refine ⟨fun i m σ' H' => m = as.length - i ∧ i ≤ as.length ∧ ∃ Γ' Ω', M as i Γ' Ω' ∧ Ok K (Fz Ω1 H1) Ω' Γ' σ' H', ⟨_, rfl, Nat.zero_le _, Γ, Ω1, h0, k1.re⟩, ?_⟩
    rintro i m σ' H' ⟨rfl, hi, Γ', Ω', hm, k'⟩
    by_cases hlt : i < as.length
    · obtain ⟨hg, hy⟩ := wk.go Ω' H' k'.bare i _ (List.getElem?_eq_getElem hlt)
      refine .inr ⟨hg, fun σ2 H2 => ∃ Γ2 Ω2, M as (i + 1) Γ2 Ω2 ∧ Ok K (Fz Ω1 H1) Ω2 Γ2 σ2 H2, fun σ2 H2 ⟨Γ2, Ω2, hm2, k2⟩ => ⟨_, by omega, rfl, by omega, Γ2, Ω2, hm2, k2⟩, fun x H2 hyx => ?_⟩
      obtain ⟨s2, v2⟩ := hy x H2 hyx
      exact hs i _ Γ' Ω' (List.getElem?_eq_getElem hlt) hm (Fz Ω1 H1) σ' H2 x _ (k'.same s2) v2 fun Γ3 σ3 Ω3 H3 h3 k3 =>
        h3 (Fz Ω1 H1) σ3 H3 _ k3 ⟨fun Γ4 σ4 Ω4 H4 h4 k4 => ⟨Γ4, Ω4, h4, k4⟩, e1.rt, e1.nx, fun Γ4 σ4 Ω4 H4 h4 k4 => ⟨Γ4, Ω4, h4, k4⟩⟩
    · have ei : i = as.length := by omega
      subst ei
      exact .inl ⟨wk.stop Ω' H' k'.bare, e1.nx _ _ _ _ (hd Γ' Ω' hm) k'⟩
/-- while -/
theorem s_while (M : Nat → List (Option Av) → AH → Prop) (m0 : Nat) (h0 : M m0 Γ Ω)
    (hs : ∀ m Γ' Ω', M m Γ' Ω' → TW K tt Γ' Ω' fun b Ω1 => (b = true → SW K t Γ' Ω1 { E with nx := fun Γ2 Ω2 => ∃ m', m' < m ∧ M m' Γ2 Ω2, ct := fun Γ2 Ω2 => ∃ m', m' < m ∧ M m' Γ2 Ω2, bk := E.nx }) ∧ (b = false → E.nx Γ' Ω1)) : SW K (tWhile tt t) Γ Ω E := fun F σ H D k e => by
  refine ⟨fun m σ' H' => ∃ Γ' Ω', M m Γ' Ω' ∧ Ok K F Ω' Γ' σ' H', ⟨m0, Γ, Ω, h0, k⟩, ?_⟩
  rintro m σ' H' ⟨Γ', Ω', hm, k'⟩
  refine hs m Γ' Ω' hm F σ' H' _ k' fun b Ω1 H1 hb k1 => ?_
  cases b with
  | true =>
    show ∃ N : L2.St → Hp → Prop, (∀ σ' H', N σ' H' → ∃ m', m' < m ∧ ∃ Γ' Ω', M m' Γ' Ω' ∧ Ok K F Ω' Γ' σ' H') ∧ t { D with nx := N, ct := N, bk := D.nx } σ' H1
    exact ⟨fun σ2 H2 => ∃ Γ2 Ω2, (∃ m', m' < m ∧ M m' Γ2 Ω2) ∧ Ok K F Ω2 Γ2 σ2 H2, fun σ2 H2 ⟨Γ2, Ω2, ⟨m', lt, h2⟩, k2⟩ => ⟨m', lt, Γ2, Ω2, h2, k2⟩,
      hb.1 rfl F σ' H1 _ k1 ⟨fun Γ2 σ2 Ω2 H2 h2 k2 => ⟨Γ2, Ω2, h2, k2⟩, e.rt, e.nx, fun Γ2 σ2 Ω2 H2 h2 k2 => ⟨Γ2, Ω2, h2, k2⟩⟩⟩
  | false => exact e.nx _ _ _ _ (hb.2 rfl) k1
/-! ### comprehensions -/
/-- a target that stores into these slots alone -/
def GN (g : TG) (js : List Nat) : Prop := ∀ (v : V) (σ : L2.St) (H : Hp) (Q Q' : L2.St → Hp → Prop), (∀ σ' H', σ'.length = σ.length → (∀ i, i ∉ js → σ'[i]? = σ[i]?) → Q σ' H' → Q' σ' H') → g v σ H Q → g v σ H Q'
def GNs (g : TGs) (js : List Nat) : Prop := ∀ (vs : List V) (σ : L2.St) (H : Hp) (Q Q' : L2.St → Hp → Prop), (∀ σ' H', σ'.length = σ.length → (∀ i, i ∉ js → σ'[i]? = σ[i]?) → Q σ' H' → Q' σ' H') → g vs σ H Q → g vs σ H Q'
theorem gn_name {js : List Nat} (h : i ∈ js) : GN (gName i) js := fun v σ H Q Q' f q => f _ _ (List.length_set ..) (fun j hj => List.getElem?_set_ne (fun e => hj (by rw [← e]; exact h))) q
theorem gns_nil {js : List Nat} : GNs gNil js := fun vs σ H Q Q' f ⟨e, q⟩ => ⟨e, f _ _ rfl (fun _ _ => rfl) q⟩
theorem gns_cons {js : List Nat} (h1 : GN g js) (h2 : GNs gs js) : GNs (gCons g gs) js := fun vs σ H Q Q' f ⟨v, r, e, q⟩ => ⟨v, r, e, h1 v σ H _ _ (fun σ1 H1 l1 a1 q1 => h2 r σ1 H1 Q Q' (fun σ2 H2 l2 a2 q2 => f σ2 H2 (l2.trans l1) (fun i hi => (a2 i hi).trans (a1 i hi)) q2) q1) q⟩
theorem gn_tup {n : Nat} {js : List Nat} (h : GNs gs js) : GN (gTup K n gs) js := fun v σ H Q Q' f ⟨a, xs, e, hs, l, q⟩ => ⟨a, xs, e, hs, l, h xs σ H Q Q' f q⟩
theorem wipe_get {σ : L2.St} {i : Nat} : ∀ {vs : List Nat}, (L2.wipe σ vs)[i]? = if i ∈ vs ∧ i < σ.length then some none else σ[i]?
  | [] => by simp [L2.wipe]
  | v :: vs => by
    unfold L2.wipe
    by_cases e : v = i
    · subst e
      by_cases hl : v < σ.length
      · rw [List.getElem?_set_self (by rw [wipe_length]; exact hl), if_pos ⟨List.mem_cons_self, hl⟩]
      · rw [List.getElem?_eq_none (by rw [List.length_set, wipe_length]; omega), if_neg (fun h => hl h.2), List.getElem?_eq_none (by omega)]
    · rw [List.getElem?_set_ne e, wipe_get]
      have e' : ¬ i = v := fun q => e q.symm
      simp only [List.mem_cons, e', false_or]
theorem wipe_agree {σ σ2 : L2.St} {vs : List Nat} (l : σ2.length = (L2.wipe σ vs).length) (h : ∀ i, i ∉ vs → σ2[i]? = (L2.wipe σ vs)[i]?) : L2.wipe σ2 vs = L2.wipe σ vs := by
  rw [wipe_length] at l
  apply List.ext_getElem?
  intro i
  rw [wipe_get, wipe_get]
  by_cases hi : i ∈ vs
  · by_cases hl : i < σ.length
    · rw [if_pos ⟨hi, by omega⟩, if_pos ⟨hi, hl⟩]
    · rw [if_neg (fun z => hl (by omega)), if_neg (fun z => hl z.2), List.getElem?_eq_none (by omega), List.getElem?_eq_none (by omega)]
  · rw [if_neg (fun z => hi z.1), if_neg (fun z => hi z.1), h i hi, wipe_get, if_neg (fun z => hi z.1)]
/-- D: where the list grows; M: a word of the turn and what is made so far -/
theorem e_lc {wi : TI} {vs : List Nat} {P : Av → AH → Prop} (hg : GN g vs) (M : Addr → List Av → Nat → List Av → AH → Prop)
    (h : IW K wi Γ Ω fun as Ω1 => as.length ≤ 50000 ∧ ∀ D, Ω1 D = none → M D as 0 [] (put Ω1 D []) ∧
      (∀ i a acc Ω', as[i]? = some a → M D as i acc Ω' → Ω' D = some acc ∧ acc.length ≤ i ∧ GW K g a (wipeA Γ vs) Ω' fun Γ2 Ω2 => TW K tt Γ2 Ω2 fun b Ω3 =>
        (b = true → EW K te Γ2 Ω3 fun y Ω4 => Ω4 D = some acc ∧ M D as (i + 1) (acc ++ [y]) (put Ω4 D (acc ++ [y]))) ∧ (b = false → M D as (i + 1) acc Ω3)) ∧
      ∀ acc Ω', M D as as.length acc Ω' → P (.ptr D) Ω') : EW K (tLc wi g tt te vs) Γ Ω P := fun F σ H Q k q =>
  h F σ H _ k fun as Ω1 H1 J ⟨hz, hM⟩ k1 wk D nD => by
    obtain ⟨h0, hs, hd⟩ := hM D (k1.free nD)
    refine ⟨fun i m H' => m = as.length - i ∧ i ≤ as.length ∧ ∃ acc Ω', M D as i acc Ω' ∧ Ok K (Fz Ω1 H1) Ω' Γ σ H', ⟨_, rfl, Nat.zero_le _, [], put Ω1 D [], h0, k1.re.new nD .nil⟩, ?_⟩
    rintro i m H' ⟨rfl, hi, acc, Ω', hm, k'⟩
    by_cases hlt : i < as.length
    · obtain ⟨hgo, hy⟩ := wk.go Ω' H' k'.bare i _ (List.getElem?_eq_getElem hlt)
      refine .inr ⟨hgo, fun H2 => ∃ acc Ω2, M D as (i + 1) acc Ω2 ∧ Ok K (Fz Ω1 H1) Ω2 Γ σ H2, fun H2 ⟨acc2, Ω2, hm2, k2⟩ => ⟨_, by omega, rfl, by omega, acc2, Ω2, hm2, k2⟩, fun x H2 hyx => ?_⟩
      obtain ⟨s2, v2⟩ := hy x H2 hyx
      obtain ⟨eD, la, hb⟩ := hs i _ acc Ω' (List.getElem?_eq_getElem hlt) hm
      have k2 := k'.same s2
      refine hg x (L2.wipe σ vs) H2 _ _ (fun σ3 H3 l3 a3 q3 => ⟨wipe_agree l3 a3, q3⟩) ?_
      refine hb (Fz Ω' H2) (L2.wipe σ vs) H2 x _ (k2.re.wipe vs) v2 fun Γ3 σ3 Ω3 H3 h3 k3 => ?_
      refine h3 (Fz Ω3 H3) σ3 H3 _ k3.re fun b Ω4 H4 h4 k4 => ?_
      have k4' : Ok K (Fz Ω1 H1) Ω4 Γ σ H4 := k2.back ((k4.anchor k3.fr).bare)
      cases b with
      | true =>
        refine h4.1 rfl (Fz Ω4 H4) σ3 H4 _ k4.re fun y v Ω5 H5 ⟨e5, h5⟩ k5 v5 => ?_
        have k5' : Ok K (Fz Ω1 H1) Ω5 Γ σ H5 := k4'.back k5.bare
        obtain ⟨xs, hx, g5⟩ := k5.st D acc e5
        have l5 := g5.length
        exact ⟨xs, hx, sz_lt (by omega), _, _, h5, k5'.put e5 (g5.app (.cons v5 .nil))⟩
      | false => exact ⟨acc, Ω4, h4.2 rfl, k4'⟩
    · have ei : i = as.length := by omega
      subst ei
      exact .inl ⟨wk.stop Ω' H' k'.bare, q _ _ _ _ (hd acc Ω' hm) (k'.anchor k1.fr) (.ptr D)⟩
/-- the same, nothing changed by a turn: what is made of each item, and which items are taken -/
theorem e_lcF {α : Type} {wi : TI} {vs : List Nat} {P : Av → AH → Prop} (xs : List α) (enc : α → Av) (p : α → Bool) (out : α → PyData) (hg : GN g vs) (hz : xs.length ≤ 50000)
    (h : IW K wi Γ Ω fun as Ω1 => as = xs.map enc ∧ (∀ x Ω', x ∈ xs → (∀ q bs, Ω1 q = some bs → Ω' q = some bs) → GW K g (enc x) (wipeA Γ vs) Ω' fun Γ2 Ω2 => Ω2 = Ω' ∧ TW K tt Γ2 Ω2 fun b Ω3 => Ω3 = Ω' ∧ b = p x ∧ (p x = true → EW K te Γ2 Ω3 fun y Ω4 => Ω4 = Ω' ∧ y = .dat (out x))) ∧
      P (.dat (.list ((xs.filter p).map out))) Ω1) : EW K (tLc wi g tt te vs) Γ Ω P := by
  refine EW.frz ?_
  refine e_lc hg (fun D as i acc Ω' => ∃ Ω1 : AH, Ω1 D = none ∧ as = xs.map enc ∧ acc = (((xs.take i).filter p).map out).map .dat ∧ Ω' = put Ω1 D acc ∧ (∀ x Ω', x ∈ xs → (∀ q bs, Ω1 q = some bs → Ω' q = some bs) → GW K g (enc x) (wipeA Γ vs) Ω' fun Γ2 Ω2 => Ω2 = Ω' ∧ TW K tt Γ2 Ω2 fun b Ω3 => Ω3 = Ω' ∧ b = p x ∧ (p x = true → EW K te Γ2 Ω3 fun y Ω4 => Ω4 = Ω' ∧ y = .dat (out x))) ∧
      P (.dat (.list ((xs.filter p).map out))) Ω1) fun F σ H R k q => h F σ H R k fun as Ω1 H1 J ⟨e, hb, hp⟩ k1 wk => q as Ω1 H1 J ⟨by rw [e, List.length_map]; exact hz, fun D nD => ⟨⟨Ω1, nD, e, by simp, rfl, hb, hp⟩, fun i a acc Ω' ea hm => ?_, fun acc Ω' hm => ?_⟩⟩ k1 wk
  · obtain ⟨Ω0, n0, e0, rfl, rfl, hb0, hp0⟩ := hm
    subst e0
    rw [List.getElem?_map] at ea
    cases ex : xs[i]? with
    | none => rw [ex] at ea; cases ea
    | some x =>
      rw [ex] at ea
      cases ea
      have mx : x ∈ xs := List.mem_of_getElem? ex
      have tk : (xs.take (i + 1)).filter p = (xs.take i).filter p ++ (if p x = true then [x] else []) := by
        rw [List.take_add_one, ex, List.filter_append]
        show _ ++ (List.filter p [x]) = _
        rw [List.filter_cons, List.filter_nil]
      refine ⟨put_same, ?_, ?_⟩
      · rw [List.length_map, List.length_map]
        exact Nat.le_trans (List.length_filter_le ..) (by rw [List.length_take]; omega)
      refine fun F' σ' H' v Q' k' v' q' => hb0 x _ mx (fun q bs hq => by
        rw [put_ne (ne_of_Ω hq n0)]
        exact hq) F' σ' H' v Q' k' v' fun Γ2 σ2 Ω2 H2 ⟨e2, h2⟩ k2 => q' Γ2 σ2 Ω2 H2 ?_ k2
      subst e2
      refine fun F' σ' H' Q' k' q' => h2 F' σ' H' Q' k' fun b Ω3 H3 ⟨e3, eb, h3⟩ k3 => q' b Ω3 H3 ⟨fun hb => ?_, fun hb => ?_⟩ k3
      · subst e3
        refine (h3 (eb.symm.trans hb)).mono fun y Ω4 ⟨e4, ey⟩ => ?_
        subst e4 ey
        refine ⟨put_same, Ω0, n0, rfl, ?_, by rw [put_put], hb0, hp0⟩
        rw [tk, if_pos (eb.symm.trans hb), List.map_append, List.map_append]
        rfl
      · subst e3
        refine ⟨Ω0, n0, rfl, ?_, rfl, hb0, hp0⟩
        rw [tk, if_neg (by rw [← eb, hb]; decide), List.append_nil]
  · obtain ⟨Ω0, n0, e0, rfl, rfl, hb0, hp0⟩ := hm
    refine ⟨D, _, rfl, put_same, ?_⟩
    rw [del_put n0, e0, List.length_map, List.take_length]
    exact hp0
theorem e_lcM {α : Type} {wi : TI} {vs : List Nat} {P : Av → AH → Prop} (xs : List α) (enc : α → Av) (out : α → PyData) (hg : GN g vs) (hz : xs.length ≤ 50000)
    (h : IW K wi Γ Ω fun as Ω1 => as = xs.map enc ∧ (∀ x Ω', x ∈ xs → (∀ q bs, Ω1 q = some bs → Ω' q = some bs) → GW K g (enc x) (wipeA Γ vs) Ω' fun Γ2 Ω2 => Ω2 = Ω' ∧ EW K te Γ2 Ω2 fun y Ω4 => Ω4 = Ω' ∧ y = .dat (out x)) ∧
      P (.dat (.list (xs.map out))) Ω1) : EW K (tLc wi g tYes te vs) Γ Ω P :=
  e_lcF xs enc (fun _ => true) out hg hz fun F σ H R k q => h F σ H R k fun as Ω1 H1 J ⟨e, hb, hp⟩ k1 wk => q as Ω1 H1 J ⟨e, fun x Ω' mx hq F' σ' H' v Q' k' v' q' => hb x Ω' mx hq F' σ' H' v Q' k' v' fun Γ2 σ2 Ω2 H2 ⟨e2, h2⟩ k2 => q' Γ2 σ2 Ω2 H2 ⟨e2, t_yes ⟨e2, rfl, fun _ => h2⟩⟩ k2, by
    rw [List.filter_eq_self.mpr (fun _ _ => rfl)]
    exact hp⟩ k1 wk
/-! ### calls of defs -/
abbrev ASp := List Av → AH → (Av → AH → Prop) → Prop
def spA (K : PySem.W.Frag) [Tb K] (sp : ASp) : Sp := fun vs H Q _ => ∃ (F : Hp) (Ω : AH) (as : List Av) (P : Av → AH → Prop), Ok K F Ω [] [] H ∧ VAll K (Fz Ω H) as vs ∧ sp as Ω P ∧ ∀ a v Ω' H', P a Ω' → Ok K F Ω' [] [] H' → VOk K (Fz Ω' H') a v → Q v H'
theorem e_call {sp : ASp} {X : XK} {P : Av → AH → Prop} (h : AW K tl Γ Ω fun as Ω1 => sp as Ω1 P) : EW K (tCall (spA K sp) [] X tl) Γ Ω P := fun F σ H Q k q =>
  h F σ H _ k fun as vs Ω1 H1 h1 k1 v1 => by
    show spA K sp (vs ++ []) H1 Q X
    rw [List.append_nil]
    exact ⟨Fz Ω1 H1, Ω1, as, P, k1.bare.re, v1, h1, fun a v Ω' H' hp k' hv => q a v Ω' H' hp (k1.back k') hv⟩
theorem e_callD {sp : ASp} {X : XK} {P : Av → AH → Prop} {dvs : List V} {das : List Av} (hd : ∀ F, VAll K F das dvs) (h : AW K tl Γ Ω fun as Ω1 => sp (as ++ das) Ω1 P) : EW K (tCall (spA K sp) dvs X tl) Γ Ω P := fun F σ H Q k q =>
  h F σ H _ k fun as vs Ω1 H1 h1 k1 v1 => ⟨Fz Ω1 H1, Ω1, as ++ das, P, k1.bare.re, v1.app (hd _), h1, fun a v Ω' H' hp k' hv => q a v Ω' H' hp (k1.back k') hv⟩
theorem e_callN {sp : ASp} {X : XK} {P : Av → AH → Prop} {n m : Nat} {gV : List V → List V → List V} {tk : TA} (gA : List Av → List Av → List Av) (hg : ∀ F as bs vs us, VAll K F as vs → VAll K F bs us → VAll K F (gA as bs) (gV vs us))
    (h : AW K tl Γ Ω fun as Ω1 => AW K tk Γ Ω1 fun bs Ω2 => as.length = n ∧ bs.length = m ∧ sp (gA as bs) Ω2 P) : EW K (tCallN n m (spA K sp) gV X tl tk) Γ Ω P := fun F σ H Q k q =>
  h F σ H _ k fun as vs Ω1 H1 h1 k1 v1 => h1 (Fz Ω1 H1) σ H1 _ k1.re fun bs us Ω2 H2 ⟨l1, l2, h2⟩ k2 v2 => ⟨v1.length.trans l1, v2.length.trans l2, Fz Ω2 H2, Ω2, gA as bs, P, k2.bare.re, hg _ _ _ _ _ (v1.same k2.fr) v2, h2, fun a v Ω' H' hp k' hv => q a v Ω' H' hp ((k2.anchor k1.fr).back k') hv⟩
/-- keywords in another order -/
def kwV (π : List Nat) (zs : List V) : List V := π.map fun i => zs.getD i .non
def kwA (π : List Nat) (zs : List Av) : List Av := π.map fun i => zs.getD i (.dat .none)
def kwU (π : List Nat) (zs : List Value) : List Value := π.map fun i => zs.getD i .none
theorem kw_va {F : Hp} {bs : List Av} {us : List V} (h : VAll K F bs us) : ∀ π : List Nat, VAll K F (kwA π bs) (kwV π us)
  | [] => .nil
  | i :: r => .cons (by
      show VOk K F (bs.getD i (.dat .none)) (us.getD i .non)
      rw [List.getD_eq_getElem?_getD, List.getD_eq_getElem?_getD]
      cases e : bs[i]? with
      | none =>
        have : us[i]? = none := by
          rw [List.getElem?_eq_none_iff] at e ⊢
          rw [h.length]
          exact e
        rw [this]
        exact .dat .non
      | some b =>
        obtain ⟨v, ev, hv⟩ := h.get e
        rw [ev]
        exact hv) (kw_va h r)
theorem kw_vals {zs : List V} {ws : List Value} (h : Vals zs ws) : ∀ π : List Nat, Vals (kwV π zs) (kwU π ws)
  | [] => .nil
  | i :: r => .cons (by
      show L2.RelV (zs.getD i .non) (ws.getD i .none)
      rw [List.getD_eq_getElem?_getD, List.getD_eq_getElem?_getD]
      cases e : zs[i]? with
      | none =>
        have : ws[i]? = none := by
          rw [List.getElem?_eq_none_iff] at e ⊢
          rw [← h.length]
          exact e
        rw [this]
        rfl
      | some b =>
        obtain ⟨v, ev, hv⟩ := h.get e
        rw [ev]
        exact hv) (kw_vals h r)
end
section
variable {P : Program} {w : World} {K : PySem.W.Frag} [Tb K] {mg : Str → Option Value} {base : Heap}
theorem spA_len {sp : ASp} {n : Nat} (len : ∀ as Ω P, sp as Ω P → as.length = n) : ∀ vs H Q E, spA K sp vs H Q E → vs.length = n := fun vs H Q E ⟨F, Ω, as, P, k, va, h, _⟩ => va.length.trans (len as Ω P h)
/-- a def of the text keeps its promise -/
theorem fnA_ok {x qual : Str} {st : Stmt} {f : Addr} {fd : FuncData} {N ps : List Str} {k : Nat} {sp : ASp} (F : L2.Fun K x qual st f fd) (S : FnScope N ps (defScope st)) (len : ∀ as Ω P, sp as Ω P → as.length = ps.length)
    (hbody : ∀ (cdv : Value) (A : Around) (outer : List Env) (s : Shared) (H : Hp) (E : XK), Room k (A.deeper (envOfC qual (defScope st) s.heap.objs.size f cdv)) →
      ∃ t, PSs (cxOf CX0 P w K mg base N qual (defScope st) f cdv A outer s H E).nox (defBody st) t ∧ ∀ as Ω P, sp as Ω P → SW K t (as.map some ++ List.replicate (N.length - as.length) none) Ω { nx := fun _ Ω' => P (.dat .none) Ω', rt := P }) :
    FnOk P w K mg base CX0 (k + 1) f fd ps (spA K sp) := by
  refine F.ok S (spA_len len) fun cdv A outer s H vs Q E hr h => ?_
  obtain ⟨t, ht, hs⟩ := hbody cdv A outer s H E hr
  obtain ⟨F0, Ω, as, P, k0, va, h, hq⟩ := h
  refine ⟨t, ht, hs as Ω P h F0 (L2.start N vs) H _ ⟨k0.fr, k0.st, ?_, k0.tb, k0.ob⟩ ⟨fun Γ' σ' Ω' H' hp k' => hq _ _ _ _ hp k'.bare (.dat .non), fun a v Ω' H' hp k' hv => hq _ _ _ _ hp k' hv, fun _ _ _ _ z => z.elim, fun _ _ _ _ z => z.elim⟩⟩
  unfold L2.start
  rw [va.length]
  exact Slots.start (N := N) va _
end
end Dat

set_option Elab.async false
set_option linter.all false
set_option maxRecDepth 100000
set_option maxHeartbeats 1000000
/-! a lambda with parameters, handed to a def that calls it -/
namespace Clo
open PySem PySem.Spec PyProof.Rows L2 LamX NdefX
section
variable {cl : List (Str × Addr)} {fr : List Str} {ws : List (Option V)} {Z : Cx} {pins : List (Addr × Obj)} {σ : L2.St} {H : Hp} {s : Shared}
theorem cells_later (C : CellsAt cl fr ws Z.s_0.heap Z.H_0) (hx : Z.ex = []) (I : Inv Z pins σ H s) : CellsAt cl fr ws s.heap H := by
  have nx : ∀ b : Addr, b ∉ Z.ex := fun b q => by
    rw [hx] at q
    cases q
  have cell : ∀ y c, cl.lookup y = some c → ∀ v, Z.s_0.heap.IsCell c v → s.heap.IsCell c v := fun y c e v w => by
    obtain ⟨o, ho, hd⟩ := w
    obtain ⟨sl, q⟩ := I.base.any ho (C.all y c e).1 (nx c)
    exact ⟨_, q, hd⟩
  constructor
  · exact C.len
  · intro y c e
    obtain ⟨n, v, z⟩ := C.all y c e
    obtain ⟨o, ho, hd⟩ := id z
    exact ⟨I.base.free c o ho n (nx c), v, cell y c e v z⟩
  · exact C.inj
  · intro i y e
    obtain ⟨c, hc, hv⟩ := C.has i y e
    exact ⟨c, hc, fun v q => by
      obtain ⟨u, r, z⟩ := hv v q
      exact ⟨u, r, cell y c hc _ z⟩⟩
end
/-- the object at f is the lambda F with this body -/
def LamO (f : Addr) (F : NF) (body : Expr) : HO := .ext fun h => ∃ pm ctv, h.get? f = some (PySem.W.kla_obj F.name F.qual F.params body F.scope F.cl pm F.c ctv)
theorem lamO_at {P : Program} {w : World} {H : Hp} {h : Heap} {f : Addr} {F : NF} {body : Expr} (hok : HOk P w H h) (e : H f = some (LamO f F body)) : ∃ pm ctv, h.get? f = some (PySem.W.kla_obj F.name F.qual F.params body F.scope F.cl pm F.c ctv) := (hok f _ e).1
/-- what it promises; ws: what its captured cells hold -/
structure LOk (P : Program) (w : World) (K : PySem.W.Frag) (mg : Str → Option Value) (base : Heap) (CX : CXT) (k : Nat) (f : Addr) (F : NF) (body : Expr) (ps fr : List Str) (sp : List (Option V) → Sp) : Prop where
  len : ∀ ws vs H Q E, sp ws vs H Q E → vs.length = ps.length
  run : ∀ (A : Around) (outer : List Env) (s : Shared) (H : Hp) (us : List Value) (vs : List V) (ws : List (Option V)) (Q : VK) (E : XK), Room k A → Env0 P w K mg base A outer s H → H f = some (LamO f F body) →
    H F.c = some (CodeO F.c F.qual) → CellsAt F.cl fr ws s.heap H → Vals vs us → sp ws vs H Q E → codeAny (model P w) A (.call (.ref f) ⟨us, []⟩) (CR CX outer P w H s Q E) s
section
variable {CX : CXT} {P : Program} {w : World} {K : PySem.W.Frag} {mg : Str → Option Value} {base : Heap} {N ps fr : List Str} {F : NF} {f : Addr} {k : Nat} {sp : List (Option V) → Sp} {body : Expr}
theorem lok_of (S : NScope N ps fr F.scope) (hb : ∀ (pm ctv : Value) (us : List Value), us.length = ps.length → bindArgs (PySem.W.kla_fn F.name F.qual F.params body F.scope F.cl pm (.ref F.c) ctv) ⟨us, []⟩ = pure (ps.zip us))
    (len : ∀ ws vs H Q E, sp ws vs H Q E → vs.length = ps.length)
    (hbody : ∀ (A : Around) (outer : List Env) (s : Shared) (H : Hp) (vs : List V) (ws : List (Option V)) (Q : VK) (E : XK), Room k (A.deeper (envF F f s.heap.objs.size)) → ws.length = fr.length → sp ws vs H Q E →
      ∃ t, PE (ncx CX P w K mg base N F f A outer s H E) body t ∧ t (startF N vs ws) H Q) : LOk P w K mg base CX (k + 1) f F body ps fr sp := by
  constructor
  · exact len
  intro A outer s H us vs ws Q E hr e0 hf hc C r hsp
  have hl := len _ _ _ _ _ hsp
  have lim : s.heap.NoLimit := e0.mod.nolimit.keeps fun b o e => (e0.bs b o e).1
  obtain ⟨pm, ctv, ho⟩ := lamO_at e0.hok hf
  obtain ⟨⟨oc, vc, t, hoc, hdc, hvc⟩, _, _⟩ := e0.hok F.c _ hc
  refine PySem.W.kla_callFunE hr.depth ho rfl S.co S.gen rfl ⟨F.c, oc, vc, t, rfl, hoc, hdc, hvc⟩ ?_
  rw [hb pm ctv us (by rw [← r.length]; exact hl)]
  refine wpAny_pure (wpAny_newFunctionEnv S.nocell (fun y hy => S.par y.1 (List.of_mem_zip hy).1) (fun h₁ hns hsb => ⟨lim.fresh _ hsb, ?_⟩) S.kind)
  show codeAny _ _ (.expr body (envF F f s.heap.objs.size)) _ _
  obtain ⟨t2, ht, hq⟩ := hbody A outer s H vs ws Q E (hr.deeper _) C.len hsp
  have J := inv_startN (CX := CX) (N := N) (w := w) (E := E) (F := F) (f := f) (tk := s.toks + (ps.zip us).length) S hr.hd e0 hl r C hns (fun b o e => hsb.extBut b o (Nat.ne_of_lt (Heap.lt_size e)) (Heap.get?_push_of_some _ e))
  refine PySem.W.kla_codeExpr (wpAny_mono (ht.run [] _ (startF N vs ws) H Q J hq) (fun v s' z => ?_) fun e s' z => z)
  obtain ⟨u, H', J', rv, qv⟩ := z
  exact ⟨u, H', J'.os, J'.bare, J'.base, J'.hok, rv, qv⟩
end
/-- a def that is given a closure: its promise, the captured cells known at the call -/
structure FnC (P : Program) (w : World) (K : PySem.W.Frag) (mg : Str → Option Value) (base : Heap) (CX : CXT) (k : Nat) (g : Addr) (gd : FuncData) (ps : List Str) (cl : List (Str × Addr)) (fr : List Str) (sp : List (Option V) → Sp) : Prop where
  run : ∀ (A : Around) (outer : List Env) (s : Shared) (H : Hp) (args : Args) (us : List Value) (vs : List V) (ws : List (Option V)) (Q : VK) (E : XK), Room k A → Env0 P w K mg base A outer s H → BindsTo s gd args (ps.zip us) → Vals vs us →
    CellsAt cl fr ws s.heap H → sp ws vs H Q E → vs.length = ps.length → codeAny (model P w) A (.call (.ref g) args) (CR CX outer P w H s Q E) s
section
variable {CX : CXT} {P : Program} {w : World} {K : PySem.W.Frag} {mg : Str → Option Value} {base : Heap} {k : Nat} {g : Addr} {gd : FuncData} {x qual : Str} {st : Stmt} {N ps : List Str} {cl : List (Str × Addr)} {fr : List Str} {sp : List (Option V) → Sp}
theorem fnc_of (F : L2.Fun K x qual st g gd) (S : FnScope N ps (defScope st))
    (hbody : ∀ (cdv : Value) (A : Around) (outer : List Env) (s : Shared) (H : Hp) (vs : List V) (ws : List (Option V)) (Q : VK) (E : XK), Room k (A.deeper (envOfC qual (defScope st) s.heap.objs.size g cdv)) → CellsAt cl fr ws s.heap H → sp ws vs H Q E →
      ∃ t, PSs (cxOf CX0 P w K mg base N qual (defScope st) g cdv A outer s H E).nox (defBody st) t ∧ t { nx := fun _ H' => Q .non H', rt := Q } (start N vs) H) : FnC P w K mg base CX0 (k + 1) g gd ps cl fr sp := by
  obtain ⟨oc, od, kV, doc, pm, an, cdv, ct, osl, rfl, lk, hcd⟩ := F.ex
  constructor
  intro A outer s H args us vs ws Q E hr e0 hb r C hsp hl
  refine run_ofS lk hcd S hr e0 hb r hl fun hr' => ?_
  obtain ⟨t, ht, hq⟩ := hbody cdv A outer s H vs ws Q E hr' C hsp
  exact ⟨t, ht.nox, hq⟩
end
/-! ### the calls -/
def tHeld (i : Nat) (f : Addr) (F : NF) (body : Expr) (ws : List (Option V)) (sp : List (Option V) → Sp) (E : XK) (t : TA) : TE := fun σ H Q => σ[i]? = some (some (.ref f)) ∧ H f = some (LamO f F body) ∧
  t σ H fun vs H1 => H1 f = some (LamO f F body) ∧ H1 F.c = some (CodeO F.c F.qual) ∧ sp ws vs H1 Q E
theorem lam_fnAt {X : Cx} {pins : List (Addr × Obj)} {σ : L2.St} {H : Hp} {s : Shared} {f : Addr} {F : NF} {body : Expr} (I : Inv X pins σ H s) (e : H f = some (LamO f F body)) : PySem.W.FnAt f s.heap := by
  obtain ⟨pm, ctv, ho⟩ := lamO_at I.hok e
  exact ⟨_, _, _, _, ho⟩
section
variable {X : Cx} {CX : CXT} {i j k : Nat} {x : Str} {f : Addr} {F : NF} {body : Expr} {ps fr : List Str} {ws : List (Option V)} {sp : List (Option V) → Sp} {E : XK} {t : TA} {e : Expr} {es : List Expr} {p pos : Pos}
theorem pe_held (L : LOk X.prog X.w X.K X.mg X.base CX k f F body ps fr sp) (C : CellsAt F.cl fr ws X.s_0.heap X.H_0) (hex : X.ex = []) (hr : Room j X.A) (hk : k ≤ j) (hx : Passes CX X E) (hN : X.N[i]? = some x) (hv : Vis X.env.scope x)
    (ha : PA X (e :: es) t) (hd : (x == ("__debug__" : Str)) = false := by decide) (hcd : (x == ("__classdict__" : Str)) = false := by decide)
    (he : starEach (e :: es) X.env = (false, eval e X.env) :: starEach es X.env := by rfl) (hpl : (backTo pos (starEach es X.env)).any (·.1) = false := by rfl) :
    PE X (.Call (.Name x p) (e :: es) [] pos) (tHeld i f F body ws sp E t) := by
  constructor
  intro pins s σ H Q I h
  obtain ⟨hs, hf, ht⟩ := h
  refine wpAny_Call_Name_kw (thn ((pe_var (pos := p) hN hv hd hcd).run pins s σ H (fun v H1 => v = .ref f ∧ H1 = H) I ⟨.ref f, hs, rfl, rfl⟩) fun u s1 z => ?_)
  obtain ⟨v, H1, I1, r1, rfl, eH⟩ := z
  rw [eH] at I1
  cases (show u = Value.ref f from r1)
  refine PySem.W.callWith_F (first := []) (lam_fnAt I1 hf) (thn (ha.run pos pins s1 σ H _ I1 ht) fun us s2 z => ?_) he hpl
  obtain ⟨vs, H2, I2, r, h1, h2, q⟩ := z
  refine ⟨lam_fnAt I2 h1, ?_⟩
  refine wpAny_call (codeAny_mono (L.run X.A X.stack s2 H2 us vs ws Q E (hr.mono hk) I2.env0 h1 h2 (cells_later C hex I2) r q) fun r s' hq => ?_)
  cases r with
  | error e => exact hx pins σ H2 s2 e s' I2 hq
  | ok fl =>
    cases fl with
    | ret u => exact I2.after hq
    | next => exact hq.elim
    | brk => exact hq.elim
    | cont => exact hq.elim
/-- g(e, ..): a def of the text that is given a function which the running frame has made; js: where the captured names stand -/
def tCallC (js : List Nat) (sp : Addr → Addr → List (Option V) → Sp) (E : XK) (t : TA) : TE := fun σ H Q => t σ H fun vs H1 => ∃ f c', sp f c' (js.map (slotAt σ)) vs H1 Q E
theorem pe_callC {cl : List (Str × Addr)} {js : List Nat} {g : Addr} {gd : FuncData} {sp : Addr → Addr → List (Option V) → Sp} (G : ∀ f c', FnC X.prog X.w X.K X.mg X.base CX k g gd ps cl fr (sp f c')) (len : ∀ f c' ws vs H Q E, sp f c' ws vs H Q E → vs.length = ps.length) (cp : X.Ok → Caps X cl fr js) (hr : Room j X.A) (hk : k ≤ j)
    (hg : Gl X x) (hm : X.mg x = some (.ref g)) (hkp : PySem.W.keepIn X.K (.ref g) = true) (hb : Binds X.K gd ps []) (hx : Passes CX X E) (ha : PA X (e :: es) t) (hdb : (x == ("__debug__" : Str)) = false := by decide)
    (he : starEach (e :: es) X.env = (false, eval e X.env) :: starEach es X.env := by rfl) (hpl : (backTo pos (starEach es X.env)).any (·.1) = false := by rfl) :
    PE X (.Call (.Name x p) (e :: es) [] pos) (tCallC js sp E t) := by
  constructor
  intro pins s σ H Q I h
  refine wpAny_Call_Name_kw (ld_glob I hg hm ?_ hdb)
  refine PySem.W.callWith_K (h₀ := X.base) I.ok.mod.kin hkp (thn (ha.run pos pins s σ H _ I h) fun us s2 z => ?_) he hpl
  obtain ⟨vs, H2, I2, r, f0, c0, q⟩ := z
  refine ⟨I2.kIn, ?_⟩
  have hl := len _ _ _ _ _ _ _ q
  have bt : BindsTo s2 gd ⟨us, []⟩ (ps.zip us) := by
    have b := hb s2 us I2.kIn (by rw [List.append_nil, ← r.length]; exact hl)
    rw [List.append_nil] at b
    exact b
  refine wpAny_call (codeAny_mono ((G f0 c0).run X.A X.stack s2 H2 ⟨us, []⟩ us vs _ Q E (hr.mono hk) I2.env0 bt r (cells_of I2 (cp I2.ok)) q hl) fun r s' hq => ?_)
  cases r with
  | error e => exact hx pins σ H2 s2 e s' I2 hq
  | ok fl =>
    cases fl with
    | ret u => exact I2.after hq
    | next => exact hq.elim
    | brk => exact hq.elim
    | cont => exact hq.elim
end
/-! ### the lambda itself -/
def tLamE (T : List (Addr × Str)) (q : Str) (mk : Addr → NF) (body : Expr) : TE := fun _ H Q => Tabs T H ∧ ∀ (f c' : Addr) (H1 : Hp), ExtN H H1 → (∀ b, H1 b = none → H b = none) → Tabs T H1 → H f = none → H1 f = some (LamO f (mk c') body) → H1 c' = some (CodeO c' q) → Q (.ref f) H1
section
variable {X : Cx} {pins : List (Addr × Obj)} {σ : L2.St} {H : Hp} {s : Shared}
theorem lam_laid {F : NF} {body : Expr} {pm ctv : Value} {t' : Nat} (I : Inv X pins σ H s) :
    Inv X pins σ (upd H s.heap.objs.size (LamO s.heap.objs.size F body)) { s with heap := s.heap.push (PySem.W.kla_obj F.name F.qual F.params body F.scope F.cl pm F.c ctv), toks := t' } := by
  have e : (s.heap.push (PySem.W.kla_obj F.name F.qual F.params body F.scope F.cl pm F.c ctv)).get? s.heap.objs.size = some (PySem.W.kla_obj F.name F.qual F.params body F.scope F.cl pm F.c ctv) := Heap.get?_push_size _ rfl
  exact I.laid (a := s.heap.objs.size) (o := LamO s.heap.objs.size F body) (fun b u q => Heap.get?_push_of_some _ q) (Nat.le_refl _) ⟨⟨pm, ctv, e⟩, ⟨_, e⟩, fun h1 h2 ⟨a, b, z⟩ st => ⟨a, b, st _ z⟩⟩
theorem pe_lambda {T : List (Addr × Str)} {c P : Addr} {params : Arguments} {body : Expr} {scope : Scope} {pos : Pos} (TB : TabB X.base X.mg c P) (hcode : X.env.code = .ref c) (hm : (P, X.env.qual ++ "<lambda>") ∈ T)
    (hu : ∀ p ∈ T, p.1 = P → p.2 = X.env.qual ++ "<lambda>") (hdef : defaultsOf params X.env = ([], [])) (hfree : X.Ok → ∀ y ∈ scope.names, y.2 = .free → ∃ c, X.env.cells.lookup y.1 = some c) :
    PE X (.Lambda params body scope pos) (tLamE T (X.env.qual ++ "<lambda>") (fun c' => ⟨"<lambda>", X.env.qual ++ "<lambda>", params, [], scope, cloFrom X.env.cells scope.names [], c'⟩) body) := by
  constructor
  intro pins s σ H Q I hq
  obtain ⟨hT, h⟩ := hq
  obtain ⟨ps, hP, ht, ha⟩ := hT _ hm
  have bP : s.heap.BuiltinsAt X.mg P := TB.bm.keeps I.bk
  have hP' : s.heap.get? P = some { cls := .none, data := .fields ps } := I.hok P _ hP
  refine PySem.W.kla_eval hdef ?_
  rcases hc : codeAmong pos ps.toList with _ | cv
  · -- a new code object
    refine PySem.W.kla_makeFunction (mg := X.mg) (c := c) (P := P) (ps := ps) (closure_ok (hfree I.ok)) I.ok.glob (I.mod.glob.keeps I.bk) hcode (TB.code.keeps I.bk) hP' ht hc TB.gP bP fun c' ctv h' tk hx hge hlt hrec htb => ?_
    obtain ⟨c2, oc, vs, t, e2, hoc, hd, hv⟩ := hrec
    cases e2
    have nC : H c' = none := I.hok.fresh hge
    have nPC : P ≠ c' := ne_of_none hP nC
    have I1 : Inv X pins σ (upd (upd H P (.tbl (ps ++ #[rawInt pos.line, rawInt pos.col, .ref c']))) c' (CodeO c' (X.env.qual ++ "<lambda>"))) { s with heap := h', toks := tk } :=
      inv_table I hP (fun b o hb e => hx b o hb e) htb hge ⟨oc, vs, t, hoc, hd, hv⟩
    have nF : upd (upd H P (.tbl (ps ++ #[rawInt pos.line, rawInt pos.col, .ref c']))) c' (CodeO c' (X.env.qual ++ "<lambda>")) h'.objs.size = none := I1.hok.fresh (Nat.le_refl _)
    have I2 := lam_laid (F := ⟨"<lambda>", X.env.qual ++ "<lambda>", params, [], scope, cloFrom X.env.cells scope.names [], c'⟩) (body := body) (pm := (X.mg "__name__").getD .none) (ctv := ctv) (t' := tk) I1
    have nF0 : H h'.objs.size = none := upd_none (upd_none nF)
    have old : ∀ b o, H b = some o → (∀ q, o ≠ .tbl q) → upd (upd (upd H P (.tbl (ps ++ #[rawInt pos.line, rawInt pos.col, .ref c']))) c' (CodeO c' (X.env.qual ++ "<lambda>"))) h'.objs.size (LamO h'.objs.size ⟨"<lambda>", X.env.qual ++ "<lambda>", params, [], scope, cloFrom X.env.cells scope.names [], c'⟩ body) b = some o := fun b o e n => by
      rw [upd_ne (ne_of_none e nF0), upd_ne (ne_of_none e nC), upd_ne (fun z => n ps (Option.some.inj (e.symm.trans (by rw [z]; exact hP))))]
      exact e
    have atC : upd (upd (upd H P (.tbl (ps ++ #[rawInt pos.line, rawInt pos.col, .ref c']))) c' (CodeO c' (X.env.qual ++ "<lambda>"))) h'.objs.size (LamO h'.objs.size ⟨"<lambda>", X.env.qual ++ "<lambda>", params, [], scope, cloFrom X.env.cells scope.names [], c'⟩ body) c' = some (CodeO c' (X.env.qual ++ "<lambda>")) := by
      rw [upd_ne (ne_of_none upd_same nF), upd_same]
    refine ⟨.ref h'.objs.size, _, I2, rfl, h h'.objs.size c' _ old (fun b e => upd_none (upd_none (upd_none e))) (fun p hp => ?_) nF0 upd_same atC⟩
    by_cases hb : p.1 = P
    · rw [hu p hp hb, hb]
      have eL : (ps ++ #[rawInt pos.line, rawInt pos.col, .ref c']).toList = ps.toList ++ [rawInt pos.line, rawInt pos.col, .ref c'] := by simp
      refine ⟨ps ++ #[rawInt pos.line, rawInt pos.col, .ref c'], ?_, by rw [eL]; exact PySem.TriplesOk_snoc _ _ _ _ ht, fun p' cv q => ?_⟩
      · have atP : upd (upd H P (.tbl (ps ++ #[rawInt pos.line, rawInt pos.col, .ref c']))) c' (CodeO c' (X.env.qual ++ "<lambda>")) P = some (.tbl (ps ++ #[rawInt pos.line, rawInt pos.col, .ref c'])) := by rw [upd_ne nPC, upd_same]
        exact (upd_ne (ne_of_none atP nF)).trans atP
      · rw [eL] at q
        rcases among_app _ ht q with q | q
        · obtain ⟨c0, e1, e3⟩ := ha p' cv q
          exact ⟨c0, e1, old _ _ e3 codeO_ne⟩
        · exact ⟨c', q, atC⟩
    · obtain ⟨ps', a1, a2, a3⟩ := hT p hp
      refine ⟨ps', ?_, a2, fun p' cv q => ?_⟩
      · rw [upd_ne (ne_of_none a1 nF0), upd_ne (ne_of_none a1 nC), upd_ne hb]
        exact a1
      · obtain ⟨c0, e1, e3⟩ := a3 p' cv q
        exact ⟨c0, e1, old _ _ e3 codeO_ne⟩
  · -- the code object stands in the table
    obtain ⟨c', e, hco⟩ := ha pos cv hc
    subst e
    refine PySem.W.kla_makeFunctionHit (mg := X.mg) (c := c) (P := P) (ps := ps) (closure_ok (hfree I.ok)) I.ok.glob (I.mod.glob.keeps I.bk) hcode (TB.code.keeps I.bk) hP' ht hc bP fun ctv h' tk hx hsz => ?_
    have I1 : Inv X pins σ H { s with heap := h', toks := tk } := I.kept hx
    have nF : H h'.objs.size = none := I1.hok.fresh (Nat.le_refl _)
    have I2 := lam_laid (F := ⟨"<lambda>", X.env.qual ++ "<lambda>", params, [], scope, cloFrom X.env.cells scope.names [], c'⟩) (body := body) (pm := (X.mg "__name__").getD .none) (ctv := ctv) (t' := tk) I1
    have sm : ∀ b o, H b = some o → upd H h'.objs.size (LamO h'.objs.size ⟨"<lambda>", X.env.qual ++ "<lambda>", params, [], scope, cloFrom X.env.cells scope.names [], c'⟩ body) b = some o := fun b o q => by
      rw [upd_ne (ne_of_none q nF)]
      exact q
    exact ⟨.ref h'.objs.size, _, I2, rfl, h h'.objs.size c' _ (ExtN.of sm) (fun b q => upd_none q) (hT.ext sm) nF upd_same (sm _ _ hco)⟩
end
end Clo

set_option Elab.async false
set_option linter.all false
set_option maxRecDepth 100000
set_option maxHeartbeats 1000000
/-! defs that show data as texts: what stands around them shows nothing; the end of a law that does so -/
namespace Grd
open PySem PySem.Spec PyProof.Rows L2 LamX NdefX Clo
section
variable {X : Cx}
theorem call_repr (hg : X.A.guards = some []) (hu : X.A.units + 100 < cLine) : CallR X (.builtin "repr") (fun xs H Q => ∃ (a : Addr) (d : PyData), xs = [.ref a] ∧ Dp X.K H (.ref a) d ∧ d.showable = true ∧ d.hasDict = false ∧ d.depth ≤ 64 ∧ d.shown.length ≤ sizeLine ∧ Q (.str d.shown) H) := by
  intro pins s σ H xs us Q I r h
  obtain ⟨a, d, rfl, hd, h1, h2, h3, h4, q⟩ := h
  obtain ⟨u, rfl, rx⟩ := vals1 r
  cases (show u = Value.ref a from rx)
  obtain ⟨as, rd⟩ := Dp.reads I d (.ref a) (.ref a) hd rfl
  exact repr_of_reads' rd h1 (PyData.noDict_hsm h2) hg (by omega) (fun _ _ e => e) (fun h' u tk hk => ⟨.str d.shown, H, I.kept (t' := tk) hk, ⟨u, rfl⟩, q⟩) h4
end
structure FnG (P : Program) (w : World) (K : PySem.W.Frag) (mg : Str → Option Value) (base : Heap) (CX : CXT) (k : Nat) (f : Addr) (fd : FuncData) (ps : List Str) (sp : Sp) : Prop where
  len : ∀ vs H Q E, sp vs H Q E → vs.length = ps.length
  run : ∀ (A : Around) (outer : List Env) (s : Shared) (H : Hp) (args : Args) (us : List Value) (vs : List V) (Q : VK) (E : XK), Room k A → A.guards = some [] → Env0 P w K mg base A outer s H → BindsTo s fd args (ps.zip us) → Vals vs us → sp vs H Q E →
    codeAny (model P w) A (.call (.ref f) args) (CR CX outer P w H s Q E) s
section
variable {P : Program} {w : World} {K : PySem.W.Frag} {mg : Str → Option Value} {base : Heap} {k : Nat} {g : Addr} {gd : FuncData} {x qual : Str} {st : Stmt} {N ps : List Str} {sp : Sp}
theorem fng_of (F : L2.Fun K x qual st g gd) (S : FnScope N ps (defScope st)) (len : ∀ vs H Q E, sp vs H Q E → vs.length = ps.length)
    (hbody : ∀ (cdv : Value) (A : Around) (outer : List Env) (s : Shared) (H : Hp) (vs : List V) (Q : VK) (E : XK), Room k (A.deeper (envOfC qual (defScope st) s.heap.objs.size g cdv)) → (A.deeper (envOfC qual (defScope st) s.heap.objs.size g cdv)).guards = some [] → sp vs H Q E →
      ∃ t, PSs (cxOf CX0 P w K mg base N qual (defScope st) g cdv A outer s H E).nox (defBody st) t ∧ t { nx := fun _ H' => Q .non H', rt := Q } (start N vs) H) : FnG P w K mg base CX0 (k + 1) g gd ps sp := by
  obtain ⟨oc, od, kV, doc, pm, an, cdv, ct, osl, rfl, lk, hcd⟩ := F.ex
  constructor
  · exact len
  intro A outer s H args us vs Q E hr hg e0 hb r hsp
  refine run_ofS lk hcd S hr e0 hb r (len _ _ _ _ hsp) fun hr' => ?_
  obtain ⟨t, ht, hq⟩ := hbody cdv A outer s H vs Q E hr' hg hsp
  exact ⟨t, ht.nox, hq⟩
end
section
variable {X : Cx} {CX : CXT} {j k : Nat} {x : Str} {ps : List Str} {sp : Sp} {E : XK} {t : TA} {e : Expr} {es : List Expr} {p pos : Pos} {g : Addr} {gd : FuncData}
theorem pe_callG (G : FnG X.prog X.w X.K X.mg X.base CX k g gd ps sp) (hr : Room j X.A) (hk : k ≤ j) (hgd : X.A.guards = some [])
    (hg : Gl X x) (hm : X.mg x = some (.ref g)) (hkp : PySem.W.keepIn X.K (.ref g) = true) (hb : Binds X.K gd ps []) (hx : Passes CX X E) (ha : PA X (e :: es) t) (hdb : (x == ("__debug__" : Str)) = false := by decide)
    (he : starEach (e :: es) X.env = (false, eval e X.env) :: starEach es X.env := by rfl) (hpl : (backTo pos (starEach es X.env)).any (·.1) = false := by rfl) :
    PE X (.Call (.Name x p) (e :: es) [] pos) (tCall sp [] E t) := by
  constructor
  intro pins s σ H Q I h
  refine wpAny_Call_Name_kw (ld_glob I hg hm ?_ hdb)
  refine PySem.W.callWith_K (h₀ := X.base) I.ok.mod.kin hkp (thn (ha.run pos pins s σ H _ I h) fun us s2 z => ?_) he hpl
  obtain ⟨vs, H2, I2, r, q⟩ := z
  have q : sp vs H2 Q E := by
    have q' : sp (vs ++ []) H2 Q E := q
    rw [List.append_nil] at q'
    exact q'
  refine ⟨I2.kIn, ?_⟩
  have hl := G.len _ _ _ _ q
  have bt : BindsTo s2 gd ⟨us, []⟩ (ps.zip us) := by
    have b := hb s2 us I2.kIn (by rw [List.append_nil, ← r.length]; exact hl)
    rw [List.append_nil] at b
    exact b
  refine wpAny_call (codeAny_mono (G.run X.A X.stack s2 H2 ⟨us, []⟩ us vs Q E (hr.mono hk) hgd I2.env0 bt r q) fun r s' hq => ?_)
  cases r with
  | error e => exact hx pins σ H2 s2 e s' I2 hq
  | ok fl =>
    cases fl with
    | ret u => exact I2.after hq
    | next => exact hq.elim
    | brk => exact hq.elim
    | cont => exact hq.elim
end
end Grd

set_option Elab.async false
set_option linter.all false
set_option maxRecDepth 100000
set_option maxHeartbeats 1000000
namespace Dat
open PySem PySem.Spec PyProof.Rows L2
/-! ### rules of my own for the derivations -/
section
variable {X : Cx} {CX : CXT} {k : Nat} {f : Addr} {fd : FuncData} {ps ks : List Str} {sp : Sp} {E : XK} {x : Str} {p pos : Pos} {kws : List Keyword} {tk : TA} {g : List Value → List Value → List Value} {gV : List V → List V → List V}
/-- a call with keywords alone -/
theorem pe_callN0 (F : FnOk X.prog X.w X.K X.mg X.base CX k f fd ps sp) (hr : Room k X.A) (hg : Gl X x) (hm : X.mg x = some (.ref f)) (hk : PySem.W.keepIn X.K (.ref f) = true) (hb : KBn X.K fd ps 0 ks g gV) (hx : Passes CX X E)
    (hkw : PK X kws tk) (hall : (backToKw pos (keywordEach kws X.env)).all (·.1.isSome) = true := by rfl) (hks : (backToKw pos (keywordEach kws X.env)).filterMap (·.1) = ks := by rfl)
    (hdb : (x == ("__debug__" : Str)) = false := by decide)
    (hpl : ((backTo pos (starEach [] X.env)).any (·.1) || (backToKw pos (keywordEach kws X.env)).any (·.1.isNone)) = false := by rfl) :
    PE X (.Call (.Name x p) [] kws pos) (tCallN 0 ks.length sp gV E tNil tk) := by
  refine ⟨fun pins s σ H Q I h => ?_⟩
  refine wpAny_Call_Name_kw (ld_glob I hg hm ?_ hdb)
  refine PySem.W.callWith_KW0 (h₀ := X.base) I.ok.mod.kin hk hall ?_ hpl
  refine thn (hkw.run pos pins s σ H _ I h) fun ws s2 ⟨zs, H2, I2, rz, l1, l2, q2⟩ => ⟨I2.kIn, ?_⟩
  rw [hks]
  exact run_fnN F hr hb hx I2 .nil rz rfl l2 q2
end
theorem pe_tupleK {X : Cx} {K : PySem.W.Frag} [Tb K] {a : Expr} {ta : TE} {p pos : Pos} (hK : X.K = K) (hg : Gl X "tuple") (hm : X.mg "tuple" = none) (ha : PE X a ta) (na : starEach [a] X.env = (false, eval a X.env) :: starEach [] X.env := by rfl) :
    PE X (.Call (.Name "tuple" p) [a] [] pos) (tThen ta (kTup K)) := by
  subst hK
  exact pe_tupleOf hg hm ha na
/-- a statement that is never reached -/
theorem ps_dead {X : Cx} {st : Stmt} : PS X st (fun _ _ _ => False) := ⟨fun _ _ _ _ _ _ h => h.elim⟩
structure DefAt (K : PySem.W.Frag) (mg : Str → Option Value) (x : Str) (st : Stmt) (ps : List Str) (ds : List Value) (f : Addr) (fd : FuncData) : Prop where
  F : L2.Fun K x x st f fd
  g : mg x = some (.ref f)
  b : Binds K fd ps ds
theorem hu64 {A : Around} {k : Nat} (hr : Room k A) : A.units + 64 < cLine := by
  have := hr.un
  omega
theorem hu100 {A : Around} {k : Nat} (hr : Room k A) : A.units + 100 < cLine := by
  have := hr.un
  omega
theorem bt_len : bootBuiltins "len" = some (.builtin "len") := by decide +kernel
theorem bt_isinstance : bootBuiltins "isinstance" = some (.builtin "isinstance") := by decide +kernel
theorem bt_abs : bootBuiltins "abs" = some (.builtin "abs") := by decide +kernel
theorem bt_all : bootBuiltins "all" = some (.builtin "all") := by decide +kernel
theorem bt_any : bootBuiltins "any" = some (.builtin "any") := by decide +kernel
theorem bt_sum : bootBuiltins "sum" = some (.builtin "sum") := by decide +kernel
theorem bt_max : bootBuiltins "max" = some (.builtin "max") := by decide +kernel
theorem bt_min : bootBuiltins "min" = some (.builtin "min") := by decide +kernel
theorem bt_sorted : bootBuiltins "sorted" = some (.builtin "sorted") := by decide +kernel
theorem bt_repr : bootBuiltins "repr" = some (.builtin "repr") := by decide +kernel
theorem bt_int : bootBuiltins "int" = some (.type "int") := by decide +kernel
theorem bt_bool : bootBuiltins "bool" = some (.type "bool") := by decide +kernel
theorem bt_tuple : bootBuiltins "tuple" = some (.type "tuple") := by decide +kernel
theorem bt_list : bootBuiltins "list" = some (.type "list") := by decide +kernel
theorem bt_str : bootBuiltins "str" = some (.type "str") := by decide +kernel
theorem bt_set : bootBuiltins "set" = some (.type "set") := by decide +kernel
theorem bt_range : bootBuiltins "range" = some (.type "range") := by decide +kernel
theorem bt_enumerate : bootBuiltins "enumerate" = some (.type "enumerate") := by decide +kernel
theorem bt_zip : bootBuiltins "zip" = some (.type "zip") := by decide +kernel
/-! ### defs that show data as texts -/
section
variable {P : Program} {w : World} {K : PySem.W.Frag} [Tb K] {mg : Str → Option Value} {base : Heap}
theorem fngA_ok {x qual : Str} {st : Stmt} {f : Addr} {fd : FuncData} {N ps : List Str} {k : Nat} {sp : ASp} (F : L2.Fun K x qual st f fd) (S : FnScope N ps (defScope st)) (len : ∀ as Ω P, sp as Ω P → as.length = ps.length)
    (hbody : ∀ (cdv : Value) (A : Around) (outer : List Env) (s : Shared) (H : Hp) (E : XK), Room k (A.deeper (envOfC qual (defScope st) s.heap.objs.size f cdv)) → (A.deeper (envOfC qual (defScope st) s.heap.objs.size f cdv)).guards = some [] →
      ∃ t, PSs (cxOf CX0 P w K mg base N qual (defScope st) f cdv A outer s H E).nox (defBody st) t ∧ ∀ as Ω P, sp as Ω P → SW K t (as.map some ++ List.replicate (N.length - as.length) none) Ω { nx := fun _ Ω' => P (.dat .none) Ω', rt := P }) :
    Grd.FnG P w K mg base CX0 (k + 1) f fd ps (spA K sp) := by
  refine Grd.fng_of F S (spA_len len) fun cdv A outer s H vs Q E hr hg h => ?_
  obtain ⟨t, ht, hs⟩ := hbody cdv A outer s H E hr hg
  obtain ⟨F0, Ω, as, P, k0, va, h, hq⟩ := h
  refine ⟨t, ht, hs as Ω P h F0 (L2.start N vs) H _ ⟨k0.fr, k0.st, ?_, k0.tb, k0.ob⟩ ⟨fun Γ' σ' Ω' H' hp k' => hq _ _ _ _ hp k'.bare (.dat .non), fun a v Ω' H' hp k' hv => hq _ _ _ _ hp k' hv, fun _ _ _ _ z => z.elim, fun _ _ _ _ z => z.elim⟩⟩
  unfold L2.start
  rw [va.length]
  exact Slots.start (N := N) va _
end
end Dat

set_option Elab.async false
set_option linter.all false
set_option maxRecDepth 100000
set_option maxHeartbeats 1000000
namespace PySem.SeqAt
open AutoSeq1 (wpAny_loadPart')
open MeetsSeq
theorem str_eq_declines_dict (b : Str) (u : Tok) (l : Addr) (es : Array DictEntry) (n : Nat) (dd : Option Addr) (sl : Array (Option Value)) :
    Meets (Builtin.«str.__eq__» ⟨[.str b u, .ref l], []⟩) (fun _ R s => s.heap.get? l = some { cls := .type "dict", dict := dd, data := .dict es n, slots := sl } ∧ R (.ok (.ret .notImplemented)) s) :=
  .of_wp fun prog w A R s h => by obtain ⟨hp, g, d, tk, os⟩ := s; obtain ⟨hl, h⟩ := h; wp_walk using wpAny_loadPart' hl, wpAny_load hl; exact ⟨_, rfl, h⟩
theorem dict_eq_declines_str (l : Addr) (es : Array DictEntry) (n : Nat) (dd : Option Addr) (sl : Array (Option Value)) (b : Str) (u : Tok) :
    Meets (Builtin.«dict.__eq__» ⟨[.ref l, .str b u], []⟩) (fun _ R s => s.heap.get? l = some { cls := .type "dict", dict := dd, data := .dict es n, slots := sl } ∧ R (.ok (.ret .notImplemented)) s) :=
  .of_wp fun prog w A R s h => by obtain ⟨hp, g, d, tk, os⟩ := s; obtain ⟨hl, h⟩ := h; have f1 := F.sub_str_dict; wp_walk using wpAny_loadPart' hl, wpAny_load hl; exact ⟨_, rfl, h⟩
section
variable {A : Around} {s : Shared}
theorem EqAt.str_dict {l : Addr} {o : Obj} {es : Array DictEntry} {n : Nat} (b : Str) (u : Tok) (h0 : s.heap.get? l = some o) (hc : o.cls = .type "dict") (hd : o.data = .dict es n) (hu : A.units < cLine) : EqAt A s (.str b u) (.ref l) false := fun prog w E Q h => by
  obtain ⟨cls, dd, data, sl⟩ := o
  simp only at hc hd
  subst hc hd
  unfold eqBool
  refine wpAny_holding ?_
  refine wpAny_ite_split (fun hab => absurd (eq_of_beq hab) nofun) (fun _ => ?_)
  refine wpAny_bind (rc_eq_decline_or (k := false) (typeIs_str s b u) ⟨_, h0, rfl⟩ (by decide) F.sub_dict_str F.slot_str_eq F.slot_dict_eq_refl
    (fun _ hq => call_meets F.slot_str_eq (typeIs_str s b u) F.entry_str_eq (F.args_str_eq_2 _ _) (str_eq_declines_dict b u l es n dd sl) ⟨h0, hq⟩)
    (fun _ hq => call_meets F.slot_dict_eq_refl ⟨_, h0, rfl⟩ F.entry_dict_eq (F.args_dict_eq_2 _ _) (dict_eq_declines_str l es n dd sl b u) ⟨h0, hq⟩)
    (fun _ hq => wpAny_of_eq (rfl : isSame (.str b u) (.ref l) = pure false) hq) (.inr hu) (wpAny_truthy_bool h))
end
end PySem.SeqAt
namespace Dat
open PySem PySem.Spec PyProof.Rows L2
def isStr (w : Str) : PyData → Bool
  | .str x => w == x
  | _ => false
section
variable {X : Cx} {pins : List (Addr × Obj)} {σ : L2.St} {H : Hp} {s : Shared}
theorem dict_at (I : Inv X pins σ H s) {a : Addr} (h : H a = some (.dK [])) : (a == sysModules) = false ∧ ∃ o n, s.heap.get? a = some o ∧ o.cls = .type "dict" ∧ o.data = .dict #[] n := by
  obtain ⟨_, h1, vs, kv, o, es, ep, e1, e2, e3, e4⟩ := dk_of I.hok h
  have hv : vs = [] := by
    cases kv
    rfl
  subst hv
  refine ⟨h1, o, ep, e1, e2.1, ?_⟩
  rw [e3]
  have : es.size = 0 := by
    have := e4.2.1.length
    simpa using this
  rw [Array.eq_empty_of_size_eq_zero this]
theorem str_at (I : Inv X pins σ H s) {A : Around} (hu : A.units < cLine) {v : V} {u : Value} {d : PyData} (h : Dq X.K H v d) (r : RelV v u) (w : Str) (t : Tok) : SeqAt.EqAt A s (.str w t) u (isStr w d) := by
  cases h with
  | non => cases r; exact SeqAt.EqAt.str_none w t
  | bl b => cases r; exact SeqAt.EqAt.str_bool w t b
  | int i => obtain ⟨t', rfl⟩ := r; exact SeqAt.EqAt.str_int w t i t'
  | str x => obtain ⟨t', rfl⟩ := r; exact SeqAt.EqAt.str_str w t x t'
  | lst h _ =>
    cases r
    obtain ⟨its, rv, p, _⟩ := I.list (SqL.of h)
    exact SeqAt.EqAt.str_list w t p.isList hu
  | tup h _ =>
    cases r
    obtain ⟨its, rv, p, _⟩ := I.tuple h
    exact SeqAt.EqAt.str_tuple w t p hu
  | dct h =>
    cases r
    obtain ⟨_, o, n, e1, e2, e3⟩ := dict_at I h
    exact SeqAt.EqAt.str_dict w t e1 e2 e3 hu
def isStrU (d : PyData) (u : Value) : Bool := match u with
  | .str w _ => isStr w d
  | _ => false
theorem any_str {d : PyData} : ∀ {ws : List Str} {us : List Value}, Vals (ws.map V.str) us → us.any (isStrU d) = ws.any fun w => isStr w d
  | [], _, h => by cases h; rfl
  | w :: r, _, h => by
    rw [List.map_cons] at h
    cases h with | cons r1 r2 =>
      obtain ⟨t, rfl⟩ := r1
      rw [List.any_cons, List.any_cons, any_str r2]
      rfl
theorem mem_str (I : Inv X pins σ H s) {A : Around} (hu : A.units < cLine) {v : V} {u : Value} {d : PyData} (h : Dq X.K H v d) (r : RelV v u) : ∀ {ws : List Str} {us : List Value}, Vals (ws.map V.str) us → ∀ y ∈ us, SeqAt.EqAt A s y u (isStrU d y)
  | [], _, g, y, hy => by cases g; cases hy
  | w :: ws, _, g, y, hy => by
    rw [List.map_cons] at g
    cases g with | cons r1 r2 =>
      obtain ⟨t, rfl⟩ := r1
      rcases List.mem_cons.mp hy with rfl | hy
      · exact str_at I hu h r w t
      · exact mem_str I hu h r r2 y hy
/-- any datum in a tuple of texts -/
def rInStr (K : PySem.W.Frag) : R2 := fun x y H Q => ∃ (p : Addr) (ws : List Str) (d : PyData), y = .ref p ∧ SqT K H p (ws.map V.str) ∧ Dq K H x d ∧ Q (.bl (ws.any fun w => isStr w d)) H
theorem op_inStr {X : Cx} (hu : X.A.units + 64 < cLine) : OpR X (compareOp .In) (rInStr X.K) := by
  intro pins s σ H x y v u Q I rx ry h
  obtain ⟨p, ws, d, rfl, hq, hd, q⟩ := h
  cases ry
  obtain ⟨its, r, tp, hz⟩ := I.tuple hq
  refine SeqAt.in_tupleAt (isStrU d) (show s.heap.IsTuple p its.toArray from tp) (fun z hz' => mem_str I (by show X.A.units + 1 < cLine; omega) hd rx r z (by simpa using hz')) ⟨.bl _, H, I, rfl, ?_⟩
  rw [show its.toArray.any (isStrU d) = its.any (isStrU d) by simp, any_str r]
  exact q
theorem r_inStr {K : PySem.W.Frag} [Tb K] {Ω : AH} {P : Av → AH → Prop} {d : PyData} {ws : List Str} (h : P (.dat (.bool (ws.any fun w => isStr w d))) Ω) : R2W K (rInStr K) (.dat d) (.dat (.tuple (ws.map PyData.str))) Ω P := fun F H x y Q k hx hy q => by
  cases hx with | dat hx => cases hy with | dat hy => cases hy with | tup hs g =>
    have e : ∀ {ws : List Str} {vs : List V}, DqAll K (Fz Ω H) vs (ws.map PyData.str) → vs = ws.map V.str := by
      intro ws
      induction ws with
      | nil => intro vs g; cases g; rfl
      | cons w r ih =>
        intro vs g
        rw [List.map_cons] at g
        cases g with | cons h g =>
          cases h
          rw [ih g, List.map_cons]
    rw [e g] at hs
    exact ⟨_, ws, d, rfl, sqT_same Fz_le hs, hx.same Fz_le, q _ _ _ _ h k (.dat (.bl _))⟩
/-! ### repr -/
mutual
def noList : PyData → Bool
  | .list _ => false
  | .tuple ds => noListAll ds
  | _ => true
def noListAll : List PyData → Bool
  | [] => true
  | d :: r => noList d && noListAll r
end
mutual
theorem Dq.reads (I : Inv X pins σ H s) : ∀ (d : PyData) (v : V) (u : Value), Dq X.K H v d → RelV v u → ∃ as, Reads s.heap u d as ∧ (noList d = true → sysModules ∉ as)
  | .none, _, _, h, r => by
    cases h
    cases r
    exact ⟨_, Reads.none, fun _ => nofun⟩
  | .bool b, _, _, h, r => by
    cases h
    cases r
    exact ⟨_, Reads.bool b, fun _ => nofun⟩
  | .int i, _, _, h, r => by
    cases h
    obtain ⟨t, rfl⟩ := r
    exact ⟨_, Reads.int i t, fun _ => nofun⟩
  | .str x, _, _, h, r => by
    cases h
    obtain ⟨t, rfl⟩ := r
    exact ⟨_, Reads.str x t, fun _ => nofun⟩
  | .list ds, _, _, h, r => by
    cases h with
    | lst hs ha =>
      cases r
      obtain ⟨its, rv, ⟨o, n, ho, hc, _, hd⟩, _⟩ := I.list (SqL.of hs)
      obtain ⟨as, hr, _⟩ := Dq.readsAll I ds _ its ha rv
      exact ⟨_, Reads.list ho hc hd hr, fun z => by simp [noList] at z⟩
  | .tuple ds, _, _, h, r => by
    cases h with
    | tup hs ha =>
      cases r
      obtain ⟨its, rv, ⟨o, ho, hc, n, hd⟩, _⟩ := I.tuple hs
      obtain ⟨as, hr, hn⟩ := Dq.readsAll I ds _ its ha rv
      exact ⟨_, Reads.tuple ho hc hd hr, fun z => hn (by simpa [noList] using z)⟩
  | .dict kvs, _, _, h, r => by
    cases h with
    | dct h =>
      cases r
      obtain ⟨h1, o, n, e1, e2, e3⟩ := dict_at I h
      refine ⟨_, Reads.dict (kvs := []) (as := []) (bs := []) e1 e2 e3 (by exact ReadsAll.nil) (by exact ReadsAll.nil), fun _ m => ?_⟩
      simp at m
      rw [m] at h1
      simp at h1
theorem Dq.readsAll (I : Inv X pins σ H s) : ∀ (ds : List PyData) (vs : List V) (us : List Value), DqAll X.K H vs ds → Vals vs us → ∃ as, ReadsAll s.heap us ds as ∧ (noListAll ds = true → sysModules ∉ as)
  | [], _, _, h, r => by
    cases h
    cases r
    exact ⟨_, ReadsAll.nil, fun _ => nofun⟩
  | d :: ds, _, _, h, r => by
    cases h with
    | cons h1 h2 =>
      cases r with
      | cons r1 r2 =>
        obtain ⟨as, q1, n1⟩ := Dq.reads I d _ _ h1 r1
        obtain ⟨bs, q2, n2⟩ := Dq.readsAll I ds _ _ h2 r2
        refine ⟨_, ReadsAll.cons q1 q2, fun z => ?_⟩
        rw [noListAll, Bool.and_eq_true] at z
        intro m
        rcases List.mem_append.mp m with m | m
        · exact n1 z.1 m
        · exact n2 z.2 m
end
end
def Shown (d : PyData) : Prop := d.showable = true ∧ (d.hasDict = true → noList d = true) ∧ d.depth ≤ 64 ∧ d.shown.length ≤ sizeLine
def rReprQ (K : PySem.W.Frag) : List V → Hp → VK → Prop := fun xs H Q => ∃ (v : V) (d : PyData), xs = [v] ∧ Dq K H v d ∧ Shown d ∧ Q (.str d.shown) H
theorem cl_repr {X : Cx} (hg : X.A.guards = some []) (hu : X.A.units + 100 < cLine) : CallR X (.builtin "repr") (rReprQ X.K) := by
  intro pins s σ H xs us Q I r h
  obtain ⟨v, d, rfl, hd, ⟨h1, h2, h3, h4⟩, q⟩ := h
  obtain ⟨u, rfl, rx⟩ := vals1 r
  have ref : ∀ a, v = .ref a → u = .ref a → wpAny (model X.prog X.w) X.A (call (.builtin "repr") [u]) (EP X pins σ Q) X.xe s := fun a ev eu => by
    subst ev eu
    obtain ⟨as, rd, hn⟩ := Dq.reads I d (.ref a) (.ref a) hd rfl
    exact repr_of_reads' rd h1 (fun z => hn (h2 z)) hg (by omega) (fun _ _ e => e) (fun h' u tk hk => ⟨.str d.shown, H, I.kept (t' := tk) hk, ⟨u, rfl⟩, q⟩) h4
  cases hd with
  | non =>
    cases rx
    exact PySem.P.repr_of_none ⟨.str "None", H, I.tok _, ⟨_, rfl⟩, by simpa [PyData.shown] using q⟩
  | bl b =>
    cases rx
    exact PySem.P.repr_of_bool ⟨.str (if b then "True" else "False"), H, I.tok _, ⟨_, rfl⟩, by simpa [PyData.shown] using q⟩
  | int i =>
    obtain ⟨t, rfl⟩ := rx
    exact PySem.P.repr_of_int (by simpa [PyData.showable] using h1) ⟨.str (toString i), H, I.tok _, ⟨_, rfl⟩, by simpa [PyData.shown] using q⟩
  | str x =>
    obtain ⟨t, rfl⟩ := rx
    exact PySem.P.repr_of_str ⟨.str (reprText x), H, I.tok _, ⟨_, rfl⟩, by simpa [PyData.shown] using q⟩ (by simpa [PyData.shown] using h4)
  | lst h g => exact ref _ rfl rx
  | tup h g => exact ref _ rfl rx
  | dct h => exact ref _ rfl rx
theorem c_repr {K : PySem.W.Frag} [Tb K] {Ω : AH} {P : Av → AH → Prop} {d : PyData} (s : Shown d) (h : P (.dat (.str d.shown)) Ω) : RCW K (rReprQ K) [.dat d] Ω P := fun F H xs Q k hx q => by
  cases hx with | cons hx g => cases g; cases hx with | dat hx =>
    exact ⟨_, d, rfl, hx.same Fz_le, s, q _ _ _ _ h k (.dat (.str _))⟩
/-! ### short words -/
inductive Dats : List Av → List PyData → Prop
  | nil : Dats [] []
  | cons {d : PyData} {as : List Av} {ds : List PyData} (h : Dats as ds) : Dats (.dat d :: as) (d :: ds)
theorem Dats.eq {as : List Av} {ds : List PyData} (h : Dats as ds) : as = ds.map .dat := by
  induction h with
  | nil => rfl
  | cons h ih => rw [ih, List.map_cons]
theorem dats_map {α : Type} {f : α → PyData} : ∀ {xs : List α}, Dats (xs.map fun x => .dat (f x)) (xs.map f)
  | [] => .nil
  | _ :: _ => .cons dats_map
section
variable {K : PySem.W.Frag} [Tb K] {Γ : List (Option Av)} {Ω : AH} {P : Av → AH → Prop} {te : TE} {tl : TA}
theorem e_tupD (h : AW K tl Γ Ω fun as Ω1 => ∃ ds, Dats as ds ∧ Nat.ble ds.length 100000 = true ∧ P (.dat (.tuple ds)) Ω1) : EW K (tTup tl) Γ Ω P :=
  e_tup fun F σ H Q k q => h F σ H Q k fun as vs Ω1 H1 ⟨ds, e, l, hp⟩ => q as vs Ω1 H1 ⟨ds, e.eq, Nat.le_of_ble_eq_true l, hp⟩
theorem e_lstD (h : AW K tl Γ Ω fun as Ω1 => ∃ ds, Dats as ds ∧ Nat.ble ds.length 100000 = true ∧ P (.dat (.list ds)) Ω1) : EW K (tLst tl) Γ Ω P :=
  e_lst fun F σ H Q k q => h F σ H Q k fun as vs Ω1 H1 ⟨ds, e, l, hp⟩ => q as vs Ω1 H1 ⟨ds, e.eq, Nat.le_of_ble_eq_true l, hp⟩
theorem c_allM {α : Type} {xs : List α} {p : α → Bool} (h : P (.dat (.bool (xs.all p))) Ω) : RCW K (rAll K) [.dat (.list (xs.map fun x => .bool (p x)))] Ω P := by
  have e : xs.map (fun x => PyData.bool (p x)) = (xs.map p).map PyData.bool := by
    rw [List.map_map]
    rfl
  rw [e]
  refine c_all ?_
  rw [List.all_map]
  exact h
theorem c_anyM {α : Type} {xs : List α} {p : α → Bool} (h : P (.dat (.bool (xs.any p))) Ω) : RCW K (rAny K) [.dat (.list (xs.map fun x => .bool (p x)))] Ω P := by
  have e : xs.map (fun x => PyData.bool (p x)) = (xs.map p).map PyData.bool := by
    rw [List.map_map]
    rfl
  rw [e]
  refine c_any ?_
  rw [List.any_map]
  exact h
theorem atI_nat' {α : Type} {xs : List α} {i : Nat} {a : α} (h : xs[i]? = some a) : atI xs (i : Int) = some a := atI_nat h
/-- a def of one datum, answered by a truth -/
abbrev spB (f : PyData → Bool) : ASp := fun as Ω P => ∃ d, as = [.dat d] ∧ P (.dat (.bool (f d))) Ω
end
end Dat

set_option Elab.async false
set_option linter.all false
set_option maxRecDepth 100000
set_option maxHeartbeats 1000000
namespace Dat
open PySem PySem.Spec PyProof.Rows L2
/-! ### the rules with the written part given outright -/
section
variable {X : Cx} {K : PySem.W.Frag} [Tb K]
theorem ixT (hK : X.K = K) : IxR X (rIxT K) := by subst hK; exact ix_tup
theorem ixL (hK : X.K = K) : IxR X (rIxL K) := by subst hK; exact ix_list
theorem slT (hK : X.K = K) : SlR X (rSlA K) := by subst hK; exact sl_tupA
theorem slL (hK : X.K = K) : SlR X (rSlL K) := by subst hK; exact sl_list
theorem catT (hK : X.K = K) : OpR X (binaryOp .Add) (rCatA K) := by subst hK; exact op_catA
theorem inQ (hK : X.K = K) : OpR X (compareOp .In) (rIn K false) := by subst hK; exact op_in_seq
theorem niQ (hK : X.K = K) : OpR X (compareOp .NotIn) (rIn K true) := by subst hK; exact op_notIn_seq
theorem inStrQ (hK : X.K = K) (hu : X.A.units + 64 < cLine) : OpR X (compareOp .In) (rInStr K) := by subst hK; exact op_inStr hu
theorem eqDQ (hK : X.K = K) (hu : X.A.units + 64 < cLine) : OpR X (compareOp .Eq) (rEqD K) := by subst hK; exact op_eqD hu
theorem neDQ (hK : X.K = K) (hu : X.A.units + 64 < cLine) : OpR X (compareOp .NotEq) (rNeD K) := by subst hK; exact op_neD hu
theorem isiQ (hK : X.K = K) : CallR X (.builtin "isinstance") (rIsi K) := by subst hK; exact call_isi
theorem lenQ (hK : X.K = K) : CallR X (.builtin "len") (rLenQ K) := by subst hK; exact cl_len
theorem listQ (hK : X.K = K) : CallR X (.type "list") (rListQ K) := by subst hK; exact cl_list
theorem allQ (hK : X.K = K) (hc : X.calm = true) : CallR X (.builtin "all") (rAll K) := by subst hK; exact cr_all hc
theorem anyQ (hK : X.K = K) (hc : X.calm = true) : CallR X (.builtin "any") (rAny K) := by subst hK; exact cr_any hc
theorem sumQ (hK : X.K = K) (hc : X.calm = true) : CallR X (.builtin "sum") (rSum K) := by subst hK; exact cr_sum hc
theorem maxQ (hK : X.K = K) (hc : X.calm = true) : CallR X (.builtin "max") (rMax K) := by subst hK; exact cr_max hc
theorem minQ (hK : X.K = K) (hc : X.calm = true) : CallR X (.builtin "min") (rMin K) := by subst hK; exact cr_min hc
theorem sortedQ (hK : X.K = K) : CallR X (.builtin "sorted") (rSorted K) := by subst hK; exact cr_sorted
theorem reprQ (hK : X.K = K) (hg : X.A.guards = some []) (hu : X.A.units + 100 < cLine) : CallR X (.builtin "repr") (rReprQ K) := by subst hK; exact cl_repr hg hu
theorem piT {tg l : Expr} {tl : TE} (hK : X.K = K) (hl : PE X l tl) : PI X tg l (iTup K tl) := by subst hK; exact pi_tup hl
theorem piL {tg l : Expr} {tl : TE} (hK : X.K = K) (hl : PE X l tl) : PI X tg l (iList K tl) := by subst hK; exact pi_list hl
theorem pgT {es : List Expr} {k : Nat} {t : TGs} {n : Nat} {pos : Pos} (hK : X.K = K) (hc : X.calm = true) (h : PGs X es t)
    (hn : (assignEach es X.env).length = n := by rfl) (hst : (assignEach es X.env).findIdx? (·.1) = none := by rfl) : PG X (.Tuple es k pos) (gTup K n t) := by subst hK; exact pg_tup hc h hn hst
theorem appQ {o e : Expr} {to : TE} {t : TA} {apos cpos : Pos} (hK : X.K = K) (ho : PE X o to) (ha : PA X [e] t)
    (hbase : attributeBase o "append" X.env (eval o X.env) = eval o X.env := by rfl)
    (hfew : ((backTo cpos (starEach [e] X.env)).all (fun x => !x.1) && (backToKw cpos (keywordEach [] X.env)).all (fun x => x.1.isSome)
      && decide ([e].length + ([] : List Keyword).length + (if ([] : List Keyword).isEmpty then 0 else 1) < 30)) = true := by rfl)
    (hline : (apos.endLine == cpos.line) = true := by rfl) (hs : starEach [e] X.env = (false, eval e X.env) :: starEach [] X.env := by rfl) (hplain : (backTo cpos (starEach [] X.env)).any (·.1) = false := by rfl) :
    PE X (.Call (.Attribute o "append" apos) [e] [] cpos) (tBM K "list" rAppend to t) := by
  subst hK
  exact pe_bm PySem.F.plainAttrs_list PySem.F.slot_list_append PySem.F.type_list_append mt_append ho ha hbase hfew hline hs hplain
theorem zipQ {e e2 : Expr} {ta : TA} {p pos tpos : Pos} {elts : List Expr} {kk : Nat} (hK : X.K = K) (hg : Gl X "zip") (hm : X.mg "zip" = none) (ha : PA X [e, e2] ta)
    (hs : starEach [e, e2] X.env = (false, eval e X.env) :: starEach [e2] X.env := by rfl) (hpl : (backTo pos (starEach [e2] X.env)).any (·.1) = false := by rfl) :
    PI X (.Tuple elts kk tpos) (.Call (.Name "zip" p) [e, e2] [] pos) (RZ.iZipA K ta) := by
  subst hK
  exact RZ.pi_zipA hg hm ha hs hpl
theorem enumQ {e : Expr} {ta : TA} {p pos tpos : Pos} {elts : List Expr} {kk : Nat} (hK : X.K = K) (hg : Gl X "enumerate") (hm : X.mg "enumerate" = none) (ha : PA X [e] ta) (hs : starEach [e] X.env = [(false, eval e X.env)] := by rfl) :
    PI X (.Tuple elts kk tpos) (.Call (.Name "enumerate" p) [e] [] pos) (iEnum K ta) := by
  subst hK
  exact pi_enum hg hm ha hs
end
/-! ### truths, one after another -/
abbrev IsB (b : Bool) (Ω : AH) : Av → AH → Prop := fun a Ω' => a = .dat (.bool b) ∧ Ω' = Ω
abbrev IsT (b : Bool) (Ω : AH) : Bool → AH → Prop := fun a Ω' => a = b ∧ Ω' = Ω
section
variable {K : PySem.W.Frag} [Tb K] {Γ : List (Option Av)} {Ω : AH} {P : Av → AH → Prop} {ta tb : TE} {tt tu : TT} {b1 b2 b : Bool}
theorem e_andB (h1 : EW K ta Γ Ω (IsB b1 Ω)) (h2 : b1 = true → EW K tb Γ Ω (IsB b2 Ω)) : EW K (tAndV ta tb) Γ Ω (IsB (b1 && b2) Ω) :=
  e_andV (h1.mono fun a Ω' ⟨e, eo⟩ => ⟨b1, e, fun z => by subst eo; rw [z, Bool.true_and]; exact h2 z, fun z => by rw [z, Bool.false_and]; exact ⟨rfl, eo⟩⟩)
theorem e_orB (h1 : EW K ta Γ Ω (IsB b1 Ω)) (h2 : b1 = false → EW K tb Γ Ω (IsB b2 Ω)) : EW K (tOrV ta tb) Γ Ω (IsB (b1 || b2) Ω) :=
  e_orV (h1.mono fun a Ω' ⟨e, eo⟩ => ⟨b1, e, fun z => by rw [z, Bool.true_or]; exact ⟨rfl, eo⟩, fun z => by subst eo; rw [z, Bool.false_or]; exact h2 z⟩)
theorem e_notB (h1 : EW K ta Γ Ω (IsB b1 Ω)) : EW K (tNotV ta) Γ Ω (IsB (!b1) Ω) := e_notV (h1.mono fun a Ω' ⟨e, eo⟩ => ⟨b1, e, rfl, eo⟩)
theorem TW.mono {P P' : Bool → AH → Prop} (h : TW K tt Γ Ω P) (f : ∀ b Ω', P b Ω' → P' b Ω') : TW K tt Γ Ω P' := fun F σ H Q k q => h F σ H Q k fun b Ω' H' p => q b Ω' H' (f b Ω' p)
theorem t_andB (h1 : TW K tt Γ Ω (IsT b1 Ω)) (h2 : b1 = true → TW K tu Γ Ω (IsT b2 Ω)) : TW K (tAnd tt tu) Γ Ω (IsT (b1 && b2) Ω) :=
  t_and (h1.mono fun a Ω' ⟨e, eo⟩ => ⟨fun z => by subst eo; rw [← e, z, Bool.true_and]; exact h2 (e.symm.trans z), fun z => ⟨by rw [← e, z, Bool.false_and], eo⟩⟩)
theorem t_orB (h1 : TW K tt Γ Ω (IsT b1 Ω)) (h2 : b1 = false → TW K tu Γ Ω (IsT b2 Ω)) : TW K (tOr tt tu) Γ Ω (IsT (b1 || b2) Ω) :=
  t_or (h1.mono fun a Ω' ⟨e, eo⟩ => ⟨fun z => ⟨by rw [← e, z, Bool.true_or], eo⟩, fun z => by subst eo; rw [← e, z, Bool.false_or]; exact h2 (e.symm.trans z)⟩)
theorem t_notB (h1 : TW K tt Γ Ω (IsT b1 Ω)) : TW K (tNot tt) Γ Ω (IsT (!b1) Ω) := t_not (h1.mono fun a Ω' ⟨e, eo⟩ => ⟨by rw [e], eo⟩)
theorem t_ofB (h : EW K ta Γ Ω (IsB b Ω)) : TW K (tB ta) Γ Ω (IsT b Ω) := t_B (h.mono fun a Ω' ⟨e, eo⟩ => ⟨b, e, rfl, eo⟩)
theorem t_ofC (h : EW K ta Γ Ω (IsB b Ω)) : TW K (tTest ta) Γ Ω (IsT b Ω) := t_test (h.mono fun a Ω' ⟨e, eo⟩ => ⟨b, e, rfl, eo⟩)
theorem s_retB {E : EndA} (h : EW K ta Γ Ω (IsB b Ω)) (q : E.rt (.dat (.bool b)) Ω) : SW K (tRet ta) Γ Ω E := s_ret (h.mono fun a Ω' ⟨e, eo⟩ => by rw [e, eo]; exact q)
theorem s_ifB {E : EndA} {t u : TS} (h : TW K tt Γ Ω (IsT b Ω)) (h1 : b = true → SW K t Γ Ω E) (h2 : b = false → SW K u Γ Ω E) : SW K (tIfS tt t u) Γ Ω E :=
  s_if (h.mono fun a Ω' ⟨e, eo⟩ => by subst e eo; exact ⟨h1, h2⟩)
end
end Dat

set_option Elab.async false
set_option linter.all false
set_option maxRecDepth 100000
set_option maxHeartbeats 3200000
/-! set of a list of ints, sorted(set(list)) -/
namespace SetL
open PySem PySem.Spec PyProof.Rows L2
/-- what a set holds that was just made -/
abbrev mtS (w : World) : Obj := { cls := .type "set", dict := none, data := .set #[] 0 (.fresh 0 0 (!w.params.followText "set-order")) }
section
variable {P : Program} {w : World} {A : Around} {E : Value → Shared → Prop} {s : Shared}
theorem set_of_list {l : Addr} {vs : Array Value} (ks : List Int) {Q : Value → Shared → Prop} (nh : A.handled = none) (pl : s.heap.IsList l vs) (ia : IntsAre vs.toList ks) (bd : ks.length + 1 < scanBound)
    (fin : ∀ (hp2 : Heap) (tk2 c : Nat), SetR w hp2 s.heap.objs.size (fun j => decide (j ∈ ks)) c → c ≤ ks.length → (∀ b o, s.heap.get? b = some o → hp2.get? b = some o) → Q (.ref s.heap.objs.size) { s with heap := hp2, toks := tk2 }) :
    wpAny (model P w) A (call (.type "set") [.ref l]) Q E s := by
  have sz : vs.size = ks.length := by have := IntsAre.length ia; rwa [Array.length_toList] at this
  obtain ⟨mc, mtl, mro⟩ := F.called_set.mro; have mde := F.called_set.made; have sbc := F.called_set.sub
  refine wpAny_call (codeAny_of_tree ?_); show wpAny _ _ (callAny (.type "set") _) _ _ _
  refine wpAny_pure ⟨Code.quiet_builtin _ (by decide +kernel), codeAny_builtin F.entry_type_call ?_⟩; rw [Around.under_plain (weight_type_call_type "set" [.ref l] []) rfl]
  have nt := F.called_set.notType; have cc := F.called_set.canCreate; have tc := F.typeCall_set_1 (.ref l)
  repeat (any_goals (first | assumption | wp_step))
  refine codeAny_mono (code_set_led1 (.ref l) (E := E) (Q₁ := fun x sx => x = .ref s.heap.objs.size ∧ sx = { s with heap := s.heap.push (mtS w) }) ⟨rfl, rfl⟩) fun r1 sr hr1 => ?_
  cases r1 with
  | error z => exact hr1
  | ok fl1 =>
    cases fl1 with
    | ret x =>
      obtain ⟨rfl, rfl⟩ := hr1
      have gS : (s.heap.push (mtS w)).get? s.heap.objs.size = some (mtS w) := Heap.get?_push_size _ rfl
      have tyS : Shared.TypeIs { s with heap := s.heap.push (mtS w) } (.ref s.heap.objs.size) "set" := ⟨_, gS, rfl⟩
      have il := F.called_set.init.lookup; have ib := F.called_set.init.bind (.ref s.heap.objs.size)
      repeat (any_goals (first | assumption | wp_step))
      refine codeAny_mono (codeAny_call_builtin (R := wants (fun x sx => x = .none ∧ ∃ hp2 tk2 c, sx = { s with heap := hp2, toks := tk2 } ∧ SetR w hp2 s.heap.objs.size (fun j => decide (j ∈ ks)) c ∧ c ≤ ks.length ∧
          (∀ b o, s.heap.get? b = some o → hp2.get? b = some o)) E) F.called_set.init.plain F.entry_set_init (check_set_init_1 tyS ?_)) fun r2 sr2 hr2 => ?_
      · obtain ⟨⟨c0, d0, dt0, sl0⟩, ho, hc0, n0, hd0⟩ := pl
        simp only at hc0 hd0; subst hc0; subst hd0
        have ho2 : (s.heap.push (mtS w)).get? l = some { cls := .type "list", dict := d0, data := .seq vs n0, slots := sl0 } := Heap.get?_push_of_some _ ho
        have f1 := F.sub_list_set; have f2 := F.sub_list_frozenset; have f3 : (Value.type "list" == Value.type "dict") = false := by decide
        have pl2 : (s.heap.push (mtS w)).IsList l vs := ⟨_, ho2, rfl, n0, rfl⟩
        unfold Builtin.«set.__init__» noKeywords Builtin.Frozenset.updateFrom; generalize hIt : pyIter = It
        wp_walk
        subst hIt
        refine wpAny_pyIter_list pl2 (wpAny_bind (wpAny_runValue ?_))
        have lS : l < s.heap.objs.size := Heap.lt_size ho
        have nh3 : A.in1.in1.in1.handled = none := by simp [nh]
        have psz : (s.heap.push (mtS w)).objs.size = s.heap.objs.size + 1 := Heap.size_push ..
        have ne1 : l ≠ (s.heap.push (mtS w)).objs.size := by rw [psz]; exact Nat.ne_of_lt (Nat.lt_succ_of_lt lS)
        have ne2 : s.heap.objs.size ∉ [(s.heap.push (mtS w)).objs.size, l] := by rw [psz]; simp only [List.mem_cons, List.not_mem_nil, or_false, not_or]; exact ⟨Nat.ne_of_lt (Nat.lt_succ_self _), Nat.ne_of_gt lS⟩
        have val : ∀ (i : Nat) (v : Value), vs[i]? = some v → ∃ k t, ks[i]? = some k ∧ v = .int k t := fun i v hv => by
          have hi : i < ks.length := by rw [← sz]; exact (Array.getElem?_eq_some_iff.mp hv).1
          obtain ⟨t, e⟩ := PyProof.Rows.IntsAre.int_at ia i v (by rwa [Array.getElem?_toList])
          exact ⟨ks[i], t, List.getElem?_eq_getElem hi, by rw [e, List.getD_eq_getElem?_getD, List.getElem?_eq_getElem hi]; rfl⟩
        refine set_update_ints ((Walks.list nh3 _ l ne1 vs).toS) s.heap.objs.size ne2 ks sz bd val (vs.size - 0) 0 _ (by omega) (Nat.zero_le _) ⟨⟨_, Heap.get?_push_size _ rfl, rfl, rfl⟩, (pl2.push _)⟩
          ⟨0, Nat.le_refl 0, setR_new_at (Heap.get?_push_of_some _ gS)⟩ fun s3 c3 mv lc hS3 => ?_
        obtain ⟨hp2, g3, d3, tk3, os3⟩ := s3
        have e1 : g3 = s.gens := mv.gens; have e2 : d3 = s.drawn := mv.drawn; have e3 : os3 = s.os := mv.os
        subst e1; subst e2; subst e3
        show wpAny _ _ _ _ _ _; refine wpAny_pure ?_; show wpAny _ _ (ret Value.none) _ _ _
        refine wpAny_pure ⟨rfl, hp2, tk3, c3, rfl, hS3, by rw [sz] at lc; exact lc, fun b o e => ?_⟩
        have hb0 : b < s.heap.objs.size := Heap.lt_size e
        exact mv.heap b o (by rw [psz]; simp only [List.mem_cons, List.not_mem_nil, or_false, not_or]; exact ⟨Nat.ne_of_lt hb0, Nat.ne_of_lt (Nat.lt_succ_of_lt hb0)⟩) (Heap.get?_push_of_some _ (Heap.get?_push_of_some _ e))
      · cases r2 with
        | error z => exact hr2
        | ok fl2 =>
          cases fl2 with
          | ret x =>
            obtain ⟨rfl, hp2, tk2, c, rfl, g1, g2, g3⟩ := hr2
            repeat (any_goals (first | assumption | wp_step))
            exact fin _ _ _ g1 g2 g3
          | _ => exact hr2.elim
    | _ => exact hr1.elim
end
/-- set(list of ints) -/
def rSetL (w : World) : List V → Hp → VK → Prop := fun xs H Q => ∃ (p : Addr) (ks : List Int), xs = [.ref p] ∧ H p = some (.lst (ks.map V.int)) ∧ ks.length ≤ 1000 ∧
  ∀ (a : Addr) (c : Nat), H a = none → c ≤ ks.length → Q (.ref a) (upd H a (SetO w a (fun j => decide (j ∈ ks)) c))
theorem cr_setL {X : Cx} (hc : X.calm = true) : CallR X (.type "set") (rSetL X.w) := by
  intro pins s σ H xs us Q I r h
  obtain ⟨p, ks, rfl, hp, hl, q⟩ := h
  rw [Vals.ref1 r]
  obtain ⟨its, rv, pl, _⟩ := I.list (SqL.of (K := X.K) hp)
  refine set_of_list ks (I.ok.hd hc) pl.isList (by simpa using RZ.intsAre_vals rv) (by unfold scanBound; omega) fun h' tk c R lc k => ?_
  have nf : H s.heap.objs.size = none := I.hok.fresh (Nat.le_refl _)
  refine ⟨.ref s.heap.objs.size, _, ?_, rfl, q _ c nf lc⟩
  exact I.laid (t' := tk) k (Nat.le_refl _) (setO_new R)
end SetL
namespace Dat
open PySem PySem.Spec PyProof.Rows L2
theorem setLQ {X : Cx} {w : World} (hw : X.w = w) (hc : X.calm = true) : CallR X (.type "set") (SetL.rSetL w) := by subst hw; exact SetL.cr_setL hc
theorem sortSetQ {X : Cx} {w : World} (hw : X.w = w) (hc : X.calm = true) : CallR X (.builtin "sorted") (rSortedSet w) := by subst hw; exact cr_sortedSet hc
section
variable {K : PySem.W.Frag} [Tb K] {Γ : List (Option Av)} {Ω : AH} {P : Av → AH → Prop} {tl : TA} {w : World}
theorem e_sortSet (h : AW K tl Γ Ω fun as Ω1 => ∃ ks : List Int, Dats as [.list (ks.map PyData.int)] ∧ ks.length ≤ 40 ∧ ∀ ns : List Int, ns.Pairwise (· < ·) → (∀ k, k ∈ ns ↔ k ∈ ks) → P (.dat (.list (ns.map PyData.int))) Ω1) :
    EW K (tCB (rSortedSet w) (tCons (tCB (SetL.rSetL w) tl) tNil)) Γ Ω P := fun F σ H Q k q =>
  h F σ H _ k fun as vs Ω1 H1 ⟨ks, ea, hl, hp⟩ k1 v1 => by
    rw [ea.eq] at v1
    cases v1 with | cons va v1 => cases v1; cases va with | dat va =>
      obtain ⟨a, rfl, ha⟩ := dq_intsL va
      refine ⟨a, ks, rfl, Fz_le _ _ ha, by omega, fun b c nb lc => ⟨b, _, c, rfl, upd_same, by omega, fun ns p hs hm _ np => ?_⟩⟩
      have k2 := k1.same (same_new (o := SetO w b (fun j => decide (j ∈ ks)) c) nb)
      exact q _ _ _ _ (hp ns hs fun k => by rw [hm k]; simp) (k2.same (same_new np)) (.dat (lst_new k2 np .ofInts))
end
end Dat

set_option Elab.async false
set_option linter.all false
set_option maxRecDepth 100000
set_option maxHeartbeats 1000000
namespace Dat
open PySem PySem.Spec PyProof.Rows L2
section
variable {K : PySem.W.Frag} [Tb K] {Γ : List (Option Av)} {Ω : AH} {g g1 : TG} {te : TE}
/-- a comprehension of two walks that changes nothing -/
theorem e_lc2P {α β : Type} {wi wi1 : TI} {vs vs1 : List Nat} {P : Av → AH → Prop} (xs : List α) (enc : α → Av) (ys : α → List β) (enc1 : β → Av) (out : α → β → PyData) (hg : GN g vs) (hg1 : GN g1 vs1) (hz : xs.length ≤ 200) (hz1 : ∀ x ∈ xs, (ys x).length ≤ 200)
    (h : IW K wi Γ Ω fun as Ω1 => as = xs.map enc ∧ (∀ x Ω', x ∈ xs → (∀ q bs, Ω1 q = some bs → Ω' q = some bs) → GW K g (enc x) (wipeA Γ vs) Ω' fun Γ2 Ω2 => Ω2 = Ω' ∧ IW K wi1 Γ2 Ω2 fun bs Ω3 => Ω3 = Ω' ∧ bs = (ys x).map enc1 ∧
        ∀ y Ω4, y ∈ ys x → (∀ q bs, Ω1 q = some bs → Ω4 q = some bs) → GW K g1 (enc1 y) (wipeA Γ2 vs1) Ω4 fun Γ5 Ω5 => Ω5 = Ω4 ∧ EW K te Γ5 Ω5 fun z Ω6 => Ω6 = Ω4 ∧ z = .dat (out x y)) ∧
      ∀ D, Ω1 D = none → P (.ptr D) (put Ω1 D ((xs.flatMap fun x => (ys x).map (out x)).map .dat))) : EW K (tLc2 wi g tYes wi1 g1 tYes te vs vs1) Γ Ω P := by
  refine fun F σ H Q k q => h F σ H _ k fun as Ω1 H1 J ⟨ea, hb, hp⟩ k1 wk D nD => ?_
  have fD := k1.free nD
  have ext : ∀ acc q bs, Ω1 q = some bs → put Ω1 D acc q = some bs := fun acc q bs hq => by
    rw [put_ne (ne_of_Ω hq fD)]
    exact hq
  refine ⟨fun i m H' => m = as.length - i ∧ i ≤ as.length ∧ ((xs.take i).flatMap fun x => (ys x).map (out x)).length ≤ 200 * i ∧ Ok K (Fz Ω1 H1) (put Ω1 D (((xs.take i).flatMap fun x => (ys x).map (out x)).map .dat)) Γ σ H', ⟨_, rfl, Nat.zero_le _, Nat.zero_le _, k1.re.new nD .nil⟩, ?_⟩
  rintro i m H' ⟨rfl, hi, hl, k'⟩
  by_cases hlt : i < as.length
  · have hlt' : i < xs.length := by rw [ea, List.length_map] at hlt; exact hlt
    have ex : xs[i]? = some xs[i] := List.getElem?_eq_getElem hlt'
    generalize hx : xs[i] = x at ex
    have mx : x ∈ xs := List.mem_of_getElem? ex
    have eas : as[i]? = some (enc x) := by rw [ea, List.getElem?_map, ex]; rfl
    obtain ⟨hgo, hy⟩ := wk.go _ H' k'.bare i _ eas
    have tk : (xs.take (i + 1)).flatMap (fun x => (ys x).map (out x)) = (xs.take i).flatMap (fun x => (ys x).map (out x)) ++ (ys x).map (out x) := by
      rw [List.take_add_one, ex, List.flatMap_append]
      simp
    refine .inr ⟨hgo, fun H2 => ((xs.take (i + 1)).flatMap fun x => (ys x).map (out x)).length ≤ 200 * (i + 1) ∧ Ok K (Fz Ω1 H1) (put Ω1 D (((xs.take (i + 1)).flatMap fun x => (ys x).map (out x)).map .dat)) Γ σ H2, fun H2 k2 => ⟨_, by omega, rfl, by omega, k2⟩, fun x' H2 hyx => ?_⟩
    obtain ⟨s2, v2⟩ := hy x' H2 hyx
    have k2 := k'.same s2
    refine hg x' (L2.wipe σ vs) H2 _ _ (fun σ3 H3 l3 a3 q3 => ⟨wipe_agree l3 a3, q3⟩) ?_
    refine hb x _ mx (ext _) _ (L2.wipe σ vs) H2 x' _ (k2.re.wipe vs) v2 fun Γ3 σ3 Ω3 H3 ⟨e3, h3⟩ k3 => ?_
    subst e3
    refine h3 _ σ3 H3 _ k3.re fun bs Ω4 H4 J1 ⟨e4, eb, hin⟩ k4 wk1 => ?_
    subst e4
    generalize hA : (xs.take i).flatMap (fun x => (ys x).map (out x)) = A at *
    refine ⟨fun j kk H5 => kk = bs.length - j ∧ j ≤ bs.length ∧ Ok K (Fz (put Ω1 D (A.map .dat)) H4) (put Ω1 D ((A ++ ((ys x).take j).map (out x)).map .dat)) Γ3 σ3 H5, ⟨_, rfl, Nat.zero_le _, ?_⟩, ?_⟩
    · rw [List.take_zero, List.map_nil, List.append_nil]
      exact k4.re
    rintro j kk H5 ⟨rfl, hj, k5⟩
    have hly := hz1 x mx
    by_cases hlj : j < bs.length
    · have hlj' : j < (ys x).length := by rw [eb, List.length_map] at hlj; exact hlj
      have ey : (ys x)[j]? = some (ys x)[j] := List.getElem?_eq_getElem hlj'
      generalize hyy : (ys x)[j] = y at ey
      have my : y ∈ ys x := List.mem_of_getElem? ey
      have ebs : bs[j]? = some (enc1 y) := by rw [eb, List.getElem?_map, ey]; rfl
      obtain ⟨hgo1, hy1⟩ := wk1.go _ H5 k5.bare j _ ebs
      have tj : ((ys x).take (j + 1)).map (out x) = ((ys x).take j).map (out x) ++ [out x y] := by
        rw [List.take_add_one, ey, List.map_append]
        rfl
      refine .inr ⟨hgo1, fun H6 => Ok K (Fz (put Ω1 D (A.map .dat)) H4) (put Ω1 D ((A ++ ((ys x).take (j + 1)).map (out x)).map .dat)) Γ3 σ3 H6, fun H6 k6 => ⟨_, by omega, rfl, by omega, k6⟩, fun y' H6 hyz => ?_⟩
      obtain ⟨s6, v6⟩ := hy1 y' H6 hyz
      have k6 := k5.same s6
      refine hg1 y' (L2.wipe σ3 vs1) H6 _ _ (fun σ7 H7 l7 a7 q7 => ⟨wipe_agree l7 a7, q7⟩) ?_
      refine hin y _ my (ext _) _ (L2.wipe σ3 vs1) H6 y' _ (k6.re.wipe vs1) v6 fun Γ7 σ7 Ω7 H7 ⟨e7, h7⟩ k7 => ?_
      subst e7
      refine h7 _ σ7 H7 _ k7.re fun z v Ω8 H8 ⟨e8, ez⟩ k8 v8 => ?_
      subst e8 ez
      have k8' : Ok K (Fz (put Ω1 D (A.map .dat)) H4) _ Γ3 σ3 H8 := k6.back ((k8.anchor k7.fr).bare)
      obtain ⟨zs, hz8, g8⟩ := k8.st D _ put_same
      have l8 := g8.length
      rw [List.length_map, List.length_append, List.length_map, List.length_take] at l8
      refine ⟨zs, hz8, sz_lt (by omega), ?_⟩
      have := k8'.put put_same (g8.app (.cons v8 .nil))
      rw [put_put] at this
      rw [tj, ← List.append_assoc, List.map_append]
      exact this
    · have ej : j = (ys x).length := by rw [eb, List.length_map] at hj hlj; omega
      have ej2 : j = bs.length := by rw [eb, List.length_map]; exact ej
      refine .inl ⟨by rw [ej2]; exact wk1.stop _ H5 k5.bare, ?_, ?_⟩
      · rw [tk, List.length_append, List.length_map]
        omega
      · rw [tk]
        subst ej
        rw [List.take_length] at k5
        exact k2.back ((k5.anchor (k3.fr.trans k4.fr)).bare)
  · have ei : i = xs.length := by rw [ea, List.length_map] at hi hlt; omega
    subst ei
    refine .inl ⟨by have := wk.stop _ H' k'.bare; rw [ea, List.length_map] at this; exact this, q _ _ _ _ (hp D fD) ?_ (.ptr D)⟩
    rw [List.take_length] at k'
    exact k'.anchor k1.fr
theorem e_lc2M {α β : Type} {wi wi1 : TI} {vs vs1 : List Nat} {P : Av → AH → Prop} (xs : List α) (enc : α → Av) (ys : α → List β) (enc1 : β → Av) (out : α → β → PyData) (hg : GN g vs) (hg1 : GN g1 vs1) (hz : xs.length ≤ 200) (hz1 : ∀ x ∈ xs, (ys x).length ≤ 200)
    (h : IW K wi Γ Ω fun as Ω1 => as = xs.map enc ∧ (∀ x Ω', x ∈ xs → (∀ q bs, Ω1 q = some bs → Ω' q = some bs) → GW K g (enc x) (wipeA Γ vs) Ω' fun Γ2 Ω2 => Ω2 = Ω' ∧ IW K wi1 Γ2 Ω2 fun bs Ω3 => Ω3 = Ω' ∧ bs = (ys x).map enc1 ∧
        ∀ y Ω4, y ∈ ys x → (∀ q bs, Ω1 q = some bs → Ω4 q = some bs) → GW K g1 (enc1 y) (wipeA Γ2 vs1) Ω4 fun Γ5 Ω5 => Ω5 = Ω4 ∧ EW K te Γ5 Ω5 fun z Ω6 => Ω6 = Ω4 ∧ z = .dat (out x y)) ∧
      P (.dat (.list (xs.flatMap fun x => (ys x).map (out x)))) Ω1) : EW K (tLc2 wi g tYes wi1 g1 tYes te vs vs1) Γ Ω P := by
  refine EW.frz (e_lc2P xs enc ys enc1 out hg hg1 hz hz1 fun F σ H R k q => h F σ H R k fun as Ω1 H1 J ⟨ea, hb, hp⟩ k1 wk => q as Ω1 H1 J ⟨ea, hb, fun D nD => ⟨D, _, rfl, put_same, ?_⟩⟩ k1 wk)
  rw [del_put nD]
  exact hp
/-! comparisons with a list that may change -/
variable {p : Addr} {ds : List PyData} {e : PyData} {P : Av → AH → Prop}
theorem Ok.listAt {F H : Hp} (k : Ok K F Ω [] [] H) (o : Ω p = some (ds.map .dat)) : Dq K H (.ref p) (.list ds) := by
  obtain ⟨xs, h1, h2⟩ := k.st p _ o
  exact .lst h1 (h2.dats.same Fz_le)
theorem r_eqP (o : Ω p = some (ds.map .dat)) (s1 : SeqAt.shaped (.list ds) = true) (s2 : SeqAt.shaped e = true) (h : P (.dat (.bool (PyData.eqv (.list ds) e))) Ω) : R2W K (rEqD K) (.ptr p) (.dat e) Ω P := fun F H x y Q k hx hy q => by
  cases hx
  cases hy with | dat hy =>
    exact ⟨_, e, (k.listAt o).dp (shaped_lay s1), (hy.same Fz_le).dp (shaped_lay s2), s1, s2, q _ _ _ _ h k (.dat (.bl _))⟩
theorem r_neP (o : Ω p = some (ds.map .dat)) (s1 : SeqAt.shaped (.list ds) = true) (s2 : SeqAt.shaped e = true) (h : P (.dat (.bool (!PyData.eqv (.list ds) e))) Ω) : R2W K (rNeD K) (.ptr p) (.dat e) Ω P := fun F H x y Q k hx hy q => by
  cases hx
  cases hy with | dat hy =>
    exact ⟨_, e, (k.listAt o).dp (shaped_lay s1), (hy.same Fz_le).dp (shaped_lay s2), s1, s2, q _ _ _ _ h k (.dat (.bl _))⟩
end
end Dat

set_option Elab.async false
set_option linter.all false
set_option maxRecDepth 100000
set_option maxHeartbeats 1000000
namespace Dat
open PySem PySem.Spec PyProof.Rows L2
/-! ### a list beside the empty one -/
def rEqNil (K : PySem.W.Frag) : R2 := fun x y H Q => ∃ a b xs, x = .ref a ∧ y = .ref b ∧ SqL K H a xs ∧ SqL K H b [] ∧ Q (.bl xs.isEmpty) H
theorem op_eqNil {X : Cx} (hu : X.A.units + 64 < cLine) : OpR X (compareOp .Eq) (rEqNil X.K) := by
  intro pins s σ H x y v u Q I rx ry h
  obtain ⟨a, b, xs, rfl, rfl, h1, h2, q⟩ := h
  cases rx
  cases ry
  obtain ⟨its, r1, p1, _⟩ := I.list h1
  obtain ⟨jts, r2, p2, _⟩ := I.list h2
  cases r2
  cases r1 with
  | nil => exact SeqAt.eq_listAt (e := fun _ => true) p1.isList p2.isList rfl (by omega) (fun j h1 _ => by simp at h1) ⟨.bl _, H, I, rfl, q⟩
  | cons _ _ => exact SeqAt.eq_list_lengthsAt p1.isList p2.isList (by simp) (by omega) ⟨.bl _, H, I, rfl, q⟩
theorem eqNilQ {X : Cx} {K : PySem.W.Frag} [Tb K] (hK : X.K = K) (hu : X.A.units + 64 < cLine) : OpR X (compareOp .Eq) (rEqNil K) := by subst hK; exact op_eqNil hu
section
variable {K : PySem.W.Frag} [Tb K] {F : Hp} {Γ : List (Option Av)} {Ω : AH} {P : Av → AH → Prop} {ta tb te : TE} {g : TG} {gs : TGs} {a : Av} {as : List Av} {ds : List PyData}
theorem r_eqNil (h : P (.dat (.bool ds.isEmpty)) Ω) : R2W K (rEqNil K) (.dat (.list ds)) (.dat (.list [])) Ω P := fun F H x y Q k hx hy q => by
  cases hx with | dat hx => cases hy with | dat hy => cases hx with | lst h1 g1 => cases hy with | lst h2 g2 =>
    cases g2
    refine ⟨_, _, _, rfl, rfl, SqL.of (Fz_le _ _ h1), SqL.of (Fz_le _ _ h2), ?_⟩
    have e : ∀ {vs : List V}, DqAll K (Fz Ω H) vs ds → vs.isEmpty = ds.isEmpty := fun g => by cases g <;> rfl
    rw [e g1]
    exact q _ _ _ _ h k (.dat (.bl _))
/-- {} -/
theorem e_dnew (h : P (.dat (.dict [])) Ω) : EW K tDNewK Γ Ω P := fun F σ H Q k q p np =>
  q _ _ _ _ h (k.same (same_new np)) (.dat (.dct (Fz_at (k.off np))))
/-- a list's place as a target -/
theorem g_sub {P : List (Option Av) → AH → Prop} (h : EW K ta Γ Ω fun o Ω2 => ∃ p, o = .ptr p ∧ EW K tb Γ Ω2 fun c Ω3 => ∃ (z : Int) (as : List Av) (j : Nat), c = .dat (.int z) ∧ Ω3 p = some as ∧ ixN as.length z = some j ∧ P Γ (put Ω3 p (as.set j a))) : GW K (gSub ta tb rSetL) a Γ Ω P := fun F σ H v Q k1 v1 q => by
  refine h (Fz Ω H) σ H _ k1.re fun o x Ω2 H2 ⟨p, eo, h2⟩ k2 v2 => ?_
  subst eo
  cases v2
  refine h2 (Fz Ω2 H2) σ H2 _ k2.re fun c y Ω3 H3 ⟨z, as, jj, ec, ep, ej, hn⟩ k3 v3 => ?_
  subst ec
  cases v3 with | dat v3 =>
    cases v3
    obtain ⟨xs, hx, g⟩ := k3.st p as ep
    refine ⟨p, xs, z, jj, rfl, rfl, hx, ?_, q _ _ _ _ hn ((k3.anchor (k1.fr.trans k2.fr)).put ep (g.set jj ((v1.same k2.fr).same k3.fr)))⟩
    rw [g.length]
    exact ej
theorem gs_consO {P : List (Option Av) → AH → Prop} (h : GW K g a Γ Ω fun Γ1 Ω1 => GsW K gs as Γ1 Ω1 P) : GsW K (gCons g gs) (a :: as) Γ Ω P := fun F σ H vs Q k hv q => by
  cases hv with | cons hv hr =>
    exact ⟨_, _, rfl, h (Fz Ω H) σ H _ _ k.re hv fun Γ1 σ1 Ω1 H1 h1 k1 => h1 F σ1 H1 _ Q (k1.anchor k.fr) (hr.same k1.fr) q⟩
/-- (x,) * n, n at least 2 -/
theorem dqAll_flat' {H : Hp} {xs : List V} (g : DqAll K H xs ds) : ∀ n : Nat, DqAll K H (List.replicate n xs).flatten (List.replicate n ds).flatten
  | 0 => .nil
  | n + 1 => by
    rw [List.replicate_succ, List.replicate_succ, List.flatten_cons, List.flatten_cons]
    exact g.app (dqAll_flat' g n)
theorem r_repT {k : Int} (ne : ds ≠ []) (h1 : 2 ≤ k) (h2 : k ≤ 1000) (hl : ds.length ≤ 1000) (h : P (.dat (.tuple (List.replicate k.toNat ds).flatten)) Ω) : R2W K (rRepT K) (.dat (.tuple ds)) (.dat (.int k)) Ω P := fun F H x y Q kk hx hy q => by
  cases hx with | dat hx => cases hy with | dat hy =>
    cases hy
    cases hx with | tup hs g =>
      have l := g.length
      refine ⟨_, k, _, rfl, rfl, sqT_same Fz_le hs, fun e => ?_, h1, h2, by omega, fun p np => q _ _ _ _ h (kk.same (same_new np)) (.dat (tup_new kk np (dqAll_flat' g _)))⟩
      subst e
      cases g
      exact ne rfl
theorem repTQ {X : Cx} (hK : X.K = K) : OpR X (binaryOp .Mult) (rRepT K) := by subst hK; exact op_repT
end
theorem dats_pack {as : List Av} {ds : List PyData} {Q : List PyData → Prop} (h1 : Dats as ds) (h2 : Nat.ble ds.length 100000 = true) (h3 : Q ds) : ∃ ds, Dats as ds ∧ Nat.ble ds.length 100000 = true ∧ Q ds := ⟨ds, h1, h2, h3⟩
theorem cutD_mem {α : Type} {xs : List α} {lo hi : Option Int} {x : α} (h : x ∈ cutD xs lo hi) : x ∈ xs := List.mem_of_mem_drop (List.mem_of_mem_take h)
theorem cutD_len {α : Type} {xs : List α} {lo hi : Option Int} : (cutD xs lo hi).length ≤ xs.length := by
  unfold cutD
  rw [List.length_take, List.length_drop]
  omega
end Dat

set_option Elab.async false
set_option linter.all false
set_option maxRecDepth 100000
set_option maxHeartbeats 1000000
namespace Dat
open PySem PySem.Spec PyProof.Rows L2
section
variable {K : PySem.W.Frag} [Tb K] {Γ : List (Option Av)} {Ω : AH} {P : Av → AH → Prop} {ds es : List PyData} {p p2 : Addr} {tl tk : TA} {sp : ASp} {X : XK}
/-- two lists that stay, the sum one that may change -/
theorem r_catLLP (hl : ds.length + es.length ≤ 100000) (h : ∀ q, Ω q = none → P (.ptr q) (put Ω q ((ds ++ es).map .dat))) : R2W K rCat (.dat (.list ds)) (.dat (.list es)) Ω P := fun F H x y Q k hx hy q => by
  cases hx with | dat hx => cases hy with | dat hy => cases hx with | lst h1 g1 => cases hy with | lst h2 g2 =>
    have l1 := g1.length
    have l2 := g2.length
    exact ⟨_, _, _, _, rfl, rfl, Fz_le _ _ h1, Fz_le _ _ h2, sz_of (by omega), fun z nz => q _ _ _ _ (h z (k.free nz)) (k.new nz (.ofDats (g1.app g2))) (.ptr z)⟩
/-- two lists that may change, the sum one that stays -/
theorem r_catPPd (o1 : Ω p = some (ds.map .dat)) (o2 : Ω p2 = some (es.map .dat)) (hl : ds.length + es.length ≤ 100000) (h : P (.dat (.list (ds ++ es))) Ω) : R2W K rCat (.ptr p) (.ptr p2) Ω P := fun F H x y Q k hx hy q => by
  cases hx
  cases hy
  obtain ⟨xs, h1, g1⟩ := k.st p _ o1
  obtain ⟨ys, h2, g2⟩ := k.st p2 _ o2
  have l1 := g1.dats.length
  have l2 := g2.dats.length
  exact ⟨_, _, _, _, rfl, rfl, h1, h2, sz_of (by omega), fun z nz => q _ _ _ _ h (k.same (same_new nz)) (.dat (lst_new k nz (g1.dats.app g2.dats)))⟩
/-- a call with keywords alone -/
theorem e_callK {π : List Nat} {m : Nat} (h : AW K tk Γ Ω fun bs Ω2 => bs.length = m ∧ sp (kwA π bs) Ω2 P) : EW K (tCallN 0 m (spA K sp) (fun _ zs => kwV π zs) X tNil tk) Γ Ω P :=
  e_callN (n := 0) (m := m) (fun _ bs => kwA π bs) (fun F as bs vs us _ h => kw_va h π) (a_nil (fun F σ H Q k q => h F σ H Q k fun bs vs Ω1 H1 ⟨e, hs⟩ => q bs vs Ω1 H1 ⟨rfl, e, hs⟩))
end
end Dat

set_option Elab.async false
set_option linter.all false
set_option maxRecDepth 100000
set_option maxHeartbeats 2000000
/-! enumerate of a tuple, zip of three tuples -/
namespace Enz
open PySem PySem.Spec PyProof.Rows L2
abbrev tIt (t : Addr) : Obj := { cls := .type "tuple_iterator", data := .fields #[.ref t, .int 0 0] }
theorem meets_new1 {v : Value} {ob : Obj} {Z : Heap → Prop} (B : Begins v ob Z) :
    Meets (Builtin.«enumerate.__new__» ⟨[.type "enumerate", v], []⟩) (fun _ R s => Z s.heap ∧
      R (.ok (.ret (.ref (s.heap.push ob).objs.size))) { s with heap := (s.heap.push ob).push { cls := .type "enumerate", data := .fields #[.none, .bool false, .ref s.heap.objs.size, rawInt 0, .none, .none] } }) :=
  .of_wp fun prog w A R s z => by
    obtain ⟨hp, gs, dr, tk, os⟩ := s; obtain ⟨z1, fin⟩ := z; have sb := sub_enumerate
    have it1 : ∀ {A2 : Around} {E2 : Value → Shared → Prop} {Q2 : Value → Shared → Prop}, Q2 (.ref hp.objs.size) ⟨hp.push ob, gs, dr, tk, os⟩ → wpAny (model prog w) A2 (pyIter v) Q2 E2 ⟨hp, gs, dr, tk, os⟩ :=
      fun y => B.iter prog w _ _ ⟨hp, gs, dr, tk, os⟩ _ z1 y
    wp_walk using it1
    refine wpAny_stack_any fun stk => wpAny_pure ?_; split
    · rename_i cl _ _ _ _ _; cases (cl == Value.type "enumerate")
      · wp_walk using it1; exact ⟨_, rfl, fin⟩
      · wp_walk using it1; exact ⟨_, rfl, fin⟩
    · wp_walk using it1; exact ⟨_, rfl, fin⟩
section
variable {prog : Program} {w : World} {A : Around} {E : Value → Shared → Prop} {s : Shared}
theorem call_enum1 {v : Value} {ob : Obj} {Z : Heap → Prop} {Q : Value → Shared → Prop} (B : Begins v ob Z) (z1 : Z s.heap)
    (fin : ∀ h2, IsEnum h2 (s.heap.objs.size + 1) s.heap.objs.size 0 .none → h2.get? s.heap.objs.size = some ob → (∀ b o, s.heap.get? b = some o → h2.get? b = some o) → Q (.ref (s.heap.objs.size + 1)) { s with heap := h2 }) :
    wpAny (model prog w) A (call (.type "enumerate") [v]) Q E s := by
  refine callType_new F.called_enumerate (by decide) (F.typeCall_enumerate_1 _) (F.newCall_enumerate_1 _) (fun x => F.args_object_init_2 x _) F.entry_enumerate_new (meets_new1 B) ⟨z1, ?_⟩
  have sz : (s.heap.push ob).objs.size = s.heap.objs.size + 1 := Heap.size_push ..
  show _ ∧ _; rw [sz]
  have ie : IsEnum ((s.heap.push ob).push { cls := .type "enumerate", data := .fields #[.none, .bool false, .ref s.heap.objs.size, rawInt 0, .none, .none] }) (s.heap.objs.size + 1) s.heap.objs.size 0 .none := by
    have y := Heap.get?_push_size (s.heap.push ob) (o := { cls := .type "enumerate", data := .fields #[.none, .bool false, .ref s.heap.objs.size, rawInt 0, .none, .none] }) rfl
    rw [sz] at y; exact y
  exact ⟨⟨_, ie, rfl⟩, fin _ ie (Heap.get?_push_of_some _ (Heap.get?_push_size _ B.free)) fun b o x => Heap.get?_push_of_some _ (Heap.get?_push_of_some _ x)⟩
end
/-- the tuple at a, each item in a new pair with its number -/
def IteT (K : PySem.W.Frag) (a : Addr) : It :=
  ⟨fun i H => ∃ (xs : List V) (x : V), SqT K H a xs ∧ xs[i]? = some x, fun i H v H' => ∃ T x, v = .ref T ∧ H T = none ∧ H' = upd H T (.tup [.int (i : Nat), x]) ∧ ∀ xs, SqT K H a xs → xs[i]? = some x, fun i H => ∃ xs : List V, SqT K H a xs ∧ xs.length = i⟩
theorem turn_enumT {P : Program} {w : World} {K : PySem.W.Frag} {elts : List Expr} {kk : Nat} {tpos : Pos} (a e it : Addr) :
    Turn P w K (.Tuple elts kk tpos) (IteT K a) [e, it] e (fun i h => (∃ old, IsEnum h e it ((i : Nat) : Int) old) ∧ h.IsTupleIter it a i ∧ e ≠ it ∧ e ≠ a ∧ a ≠ it) where
  mem := by simp
  obj := fun i h st b hb => by
    obtain ⟨⟨old, z1⟩, ⟨o, z2, _, z3⟩, _⟩ := st
    rcases (by simpa using hb : b = e ∨ b = it) with y | y
    · rw [y]; exact ⟨_, z1, fun v q => nomatch q⟩
    · rw [y]; exact ⟨o, z2, fun v q => by rw [z3] at q; cases q⟩
  keep := fun i h h' st k => let ⟨⟨old, z1⟩, z2, z3⟩ := st; ⟨⟨old, k e (by simp) _ z1⟩, z2.at fun o q => k it (by simp) o q, z3⟩
  item := by
    intro X hP hw hK hc i pins s σ H E I hf st hg
    subst hP hw hK
    obtain ⟨⟨old, z1⟩, z2, n1, n2, n3⟩ := st
    obtain ⟨xs, x, hq, hx⟩ := hg
    obtain ⟨its, rv, pt, _⟩ := I.tuple hq
    obtain ⟨u, hu, ru⟩ := rv.get hx
    have li : i < its.length := (List.getElem?_eq_some_iff.mp hu).1
    have el : e < s.heap.objs.size := Heap.lt_size z1
    have il : it < s.heap.objs.size := by obtain ⟨_, q, _⟩ := z2; exact Heap.lt_size q
    have dw := Draws.tuple (prog := X.prog) (w := X.w) (A := X.A.in1) (by simp [I.ok.hd hc]) it a n3 its.toArray
    refine wpAny_pyNext_enum_itemD dw z1 ⟨z2, pt⟩ (by simpa using li) n1 (by simp [n1, n2]) fun y h2 tk py io st2 hT sz k => ?_
    have ey : y = u := by
      have py' : its.toArray[i]? = some y := py
      rw [List.getElem?_toArray, hu] at py'
      exact (Option.some.inj py').symm
    subst ey
    refine ⟨_, rfl, wpAny_letOwnedTupleGo_enum (s := { s with heap := h2, toks := tk + 1 }) io fun h3 ie sb => ?_⟩
    have hT3 : h3.get? s.heap.objs.size = some { cls := .type "tuple", data := .seq #[.int i tk, y] } := (sb.2 _ (Nat.ne_of_gt el)).trans hT
    have new : ObjOk X.prog X.w (upd H s.heap.objs.size (.tup [.int (i : Nat), x])) h3 s.heap.objs.size (.tup [.int (i : Nat), x]) :=
      ⟨by show 2 ≤ sizeLine; decide, [.int i tk, y], .cons ⟨_, rfl⟩ (.cons ru .nil), ⟨_, hT3, rfl, _, rfl⟩⟩
    have I2 : Inv X pins σ (upd H s.heap.objs.size (.tup [.int (i : Nat), x])) { s with heap := h3, toks := tk + 1 } :=
      I.turnedNew (ch := [e, it]) (fun b o hb q => (sb.2 b (fun z => hb (by simp [z]))).trans (k b o (fun z => hb (by simp [z])) (fun z => hb (by simp [z])) q)) hf (Nat.le_refl _) new
    refine ⟨.ref s.heap.objs.size, _, I2, rfl, ⟨_, x, rfl, I.hok.fresh (Nat.le_refl _), rfl, fun ys hy => by rw [I.tuple_inj hy hq]; exact hx⟩, ⟨⟨y, ?_⟩, st2.1.at fun o q => (sb.2 it (Ne.symm n1)).trans q, n1, n2, n3⟩, fun b hb => ?_⟩
    · rw [show ((i + 1 : Nat) : Int) = (i : Int) + 1 by omega]; exact ie
    · have lb : b < s.heap.objs.size := by
        rcases (by simpa using hb : b = e ∨ b = it) with z | z
        · rw [z]; exact el
        · rw [z]; exact il
      rw [upd_ne (Nat.ne_of_lt lb)]; exact (hf b hb).1
  done := by
    intro X hP hw hK hc i pins s σ H E I hf st hg
    subst hP hw hK
    obtain ⟨⟨old, z1⟩, z2, n1, n2, n3⟩ := st
    obtain ⟨xs, hq, hx⟩ := hg
    obtain ⟨its, rv, pt, _⟩ := I.tuple hq
    obtain ⟨f0, f1, f2, f3, f4, f5⟩ := hf it (by simp)
    have ln := rv.length
    have dw := Draws.tuple (prog := X.prog) (w := X.w) (A := X.A.in1) (by simp [I.ok.hd hc]) it a n3 its.toArray
    have ei : i = its.toArray.size := by rw [List.size_toArray]; omega
    subst ei
    exact wpAny_pyNext_enum_endD dw z1 ⟨z2, pt⟩ fun h2 eb => ⟨rfl, I.turned (t' := s.toks) (fun b o hb q => eb b o hb q) f0 f1 f3 f4 f5⟩
  self := fun A i s Q E st h => let ⟨⟨_, z1⟩, _⟩ := st; wpAny_pyIter_enum z1 h
def iEnumT (K : PySem.W.Frag) (ta : TA) : TI := fun σ H R => ta σ H fun vs H1 => ∃ a xs, vs = [.ref a] ∧ SqT K H1 a xs ∧ R (IteT K a) H1
theorem pi_enumT {X : Cx} {e : Expr} {ta : TA} {p pos tpos : Pos} {elts : List Expr} {kk : Nat} (hg : Gl X "enumerate") (hm : X.mg "enumerate" = none) (ha : PA X [e] ta) (hs : starEach [e] X.env = [(false, eval e X.env)] := by rfl) :
    PI X (.Tuple elts kk tpos) (.Call (.Name "enumerate" p) [e] [] pos) (iEnumT X.K ta) := by
  refine ⟨fun pins s σ H R I h => Call_ (ld_blt I hg hm boot_enumerate (PyProof.Rows.callWith_type1 (thn (ha.run pos pins s σ H _ I h) fun us s1 ⟨vs, H1, I1, r1, q1⟩ => ?_) hs rfl))⟩
  obtain ⟨a, xs, ex, hq, q⟩ := q1
  subst ex
  cases r1 with | cons r rr =>
    cases rr; cases r
    obtain ⟨its, rv, pt, _⟩ := I1.tuple hq
    have la : a < s1.heap.objs.size := by obtain ⟨_, y, _⟩ := pt; exact Heap.lt_size y
    refine call_enum1 (begins_tuple a its.toArray) pt fun h2 ie gi k => wpAny_pyIter_enum ie ?_
    have I2 : Inv X pins σ H1 { s1 with heap := h2 } := I1.kept (t' := s1.toks) k
    refine ⟨s1.heap.objs.size + 1, [s1.heap.objs.size + 1, s1.heap.objs.size], _, _, H1, rfl, I2, turn_enumT a (s1.heap.objs.size + 1) s1.heap.objs.size, ⟨⟨.none, ie⟩, ⟨_, gi, rfl, rfl⟩, Nat.succ_ne_self _, Nat.ne_of_gt (Nat.lt_succ_of_lt la), Nat.ne_of_lt la⟩, fun b hb => ?_, q⟩
    have lb : s1.heap.objs.size ≤ b := by
      rcases (by simpa using hb : b = s1.heap.objs.size + 1 ∨ b = s1.heap.objs.size) with z | z
      · rw [z]; exact Nat.le_add_right _ _
      · rw [z]; exact Nat.le_refl _
    exact I1.fpOk lb (I1.hok.fresh lb)
/-! ### zip of three tuples -/
def ItzT3 (K : PySem.W.Frag) (a b c : Addr) : It :=
  ⟨fun i H => ∃ (xs ys zs : List V) (x y z : V), SqT K H a xs ∧ SqT K H b ys ∧ SqT K H c zs ∧ xs[i]? = some x ∧ ys[i]? = some y ∧ zs[i]? = some z,
    fun i H v H' => ∃ T x y z, v = .ref T ∧ H T = none ∧ H' = upd H T (.tup [x, y, z]) ∧ (∀ xs, SqT K H a xs → xs[i]? = some x) ∧ (∀ ys, SqT K H b ys → ys[i]? = some y) ∧ ∀ zs, SqT K H c zs → zs[i]? = some z,
    fun i H => ∃ xs ys zs : List V, SqT K H a xs ∧ SqT K H b ys ∧ SqT K H c zs ∧ xs.length = i ∧ ys.length = i ∧ zs.length = i⟩
theorem pick {its : List Value} {i : Nat} {u y : Value} (hu : its[i]? = some u) (hy : its.toArray[i]? = some y) : y = u := by
  rw [List.getElem?_toArray, hu] at hy
  exact (Option.some.inj hy).symm
theorem turn_zip3 {P : Program} {w : World} {K : PySem.W.Frag} {elts : List Expr} {kk : Nat} {tpos : Pos} {a b c z TI TO i1 i2 i3 : Addr} (D : ZipSep3 z TI TO i1 i2 i3 [i1, a] [i2, b] [i3, c]) (na : a ≠ i1) (nb : b ≠ i2) (nc : c ≠ i3) :
    Turn P w K (.Tuple elts kk tpos) (ItzT3 K a b c) [z, TI, TO, i1, i2, i3] z (fun i h => IsZip h z TI TO .none ∧ IsTupOf3 h TI (.ref i1) (.ref i2) (.ref i3) ∧ (∃ x y u, IsTupOf3 h TO x y u) ∧ h.IsTupleIter i1 a i ∧ h.IsTupleIter i2 b i ∧ h.IsTupleIter i3 c i) where
  mem := by simp
  obj := fun i h st m hm => by
    obtain ⟨hz, hTI, ⟨x, y, u, hTO⟩, ⟨o1, e1, _, d1⟩, ⟨o2, e2, _, d2⟩, ⟨o3, e3, _, d3⟩⟩ := st
    rcases (by simpa using hm : m = z ∨ m = TI ∨ m = TO ∨ m = i1 ∨ m = i2 ∨ m = i3) with q | q | q | q | q | q
    · rw [q]; exact ⟨_, hz, fun v q => nomatch q⟩
    · rw [q]; exact ⟨_, hTI, fun v q => nomatch q⟩
    · rw [q]; exact ⟨_, hTO, fun v q => nomatch q⟩
    · rw [q]; exact ⟨o1, e1, fun v q => by rw [d1] at q; cases q⟩
    · rw [q]; exact ⟨o2, e2, fun v q => by rw [d2] at q; cases q⟩
    · rw [q]; exact ⟨o3, e3, fun v q => by rw [d3] at q; cases q⟩
  keep := fun i h h' st k => by
    obtain ⟨hz, hTI, ⟨x, y, u, hTO⟩, h1, h2, h3⟩ := st
    exact ⟨k z (by simp) _ hz, k TI (by simp) _ hTI, ⟨x, y, u, k TO (by simp) _ hTO⟩, h1.at fun o q => k i1 (by simp) o q, h2.at fun o q => k i2 (by simp) o q, h3.at fun o q => k i3 (by simp) o q⟩
  item := by
    intro X hP hw hK hc i pins s σ H E I hf st hg
    subst hP hw hK
    obtain ⟨hz, hTI, ⟨x0, y0, u0, hTO⟩, h1, h2, h3⟩ := st
    obtain ⟨xs, ys, zs, x, y, t, hqx, hqy, hqz, hx, hy, ht⟩ := hg
    obtain ⟨its, rv, p1, _⟩ := I.tuple hqx; obtain ⟨jts, rw2, p2, _⟩ := I.tuple hqy; obtain ⟨kts, rw3, p3, _⟩ := I.tuple hqz
    obtain ⟨u1, hu1, ru1⟩ := rv.get hx; obtain ⟨u2, hu2, ru2⟩ := rw2.get hy; obtain ⟨u3, hu3, ru3⟩ := rw3.get ht
    have l1 : i < its.length := (List.getElem?_eq_some_iff.mp hu1).1; have l2 : i < jts.length := (List.getElem?_eq_some_iff.mp hu2).1; have l3 : i < kts.length := (List.getElem?_eq_some_iff.mp hu3).1
    have nh : X.A.in1.handled = none := by simp [I.ok.hd hc]
    have dw1 := Draws.tuple (prog := X.prog) (w := X.w) (A := X.A.in1) nh i1 a na its.toArray
    have dw2 := Draws.tuple (prog := X.prog) (w := X.w) (A := X.A.in1) nh i2 b nb jts.toArray
    have dw3 := Draws.tuple (prog := X.prog) (w := X.w) (A := X.A.in1) nh i3 c nc kts.toArray
    have zl : z < s.heap.objs.size := Heap.lt_size hz
    refine wpAny_pyNext_zipD3_item D dw1 dw2 dw3 hz hTI hTO ⟨h1, p1⟩ ⟨h2, p2⟩ ⟨h3, p3⟩ (by simpa using l1) (by simpa using l2) (by simpa using l3) fun v1 v2 v3 g tk q1 q2 q3 z' TO' s1 s2 s3 hT sz k => ?_
    have e1 := pick hu1 q1; have e2 := pick hu2 q2; have e3 := pick hu3 q3
    subst e1; subst e2; subst e3
    refine ⟨_, rfl, wpAny_letOwnedTupleGo_zip (s := { s with heap := g, toks := tk }) z' fun g2 z'' sb => ?_⟩
    have hT2 : g2.get? s.heap.objs.size = some { cls := .type "tuple", data := .seq #[v1, v2, v3] } := (sb.2 _ (Nat.ne_of_gt zl)).trans hT
    have new : ObjOk X.prog X.w (upd H s.heap.objs.size (.tup [x, y, t])) g2 s.heap.objs.size (.tup [x, y, t]) :=
      ⟨by show 3 ≤ sizeLine; decide, [v1, v2, v3], .cons ru1 (.cons ru2 (.cons ru3 .nil)), ⟨_, hT2, rfl, _, rfl⟩⟩
    have I2 : Inv X pins σ (upd H s.heap.objs.size (.tup [x, y, t])) { s with heap := g2, toks := tk } :=
      I.turnedNew (t' := tk) (ch := [z, TI, TO, i1, i2, i3]) (fun m o hb q => (sb.2 m (fun q' => hb (by simp [q']))).trans (k m o (fun q' => hb (by simp [q'])) (fun q' => hb (by simp [q'])) (fun q' => hb (by simp [q'])) (fun q' => hb (by simp [q'])) (fun q' => hb (by simp [q'])) q)) hf (Nat.le_refl _) new
    refine ⟨.ref s.heap.objs.size, _, I2, rfl, ⟨_, x, y, t, rfl, I.hok.fresh (Nat.le_refl _), rfl, fun l hl => by rw [I.tuple_inj hl hqx]; exact hx, fun l hl => by rw [I.tuple_inj hl hqy]; exact hy, fun l hl => by rw [I.tuple_inj hl hqz]; exact ht⟩, ⟨z'', ?_, ⟨v1, v2, v3, ?_⟩, ?_, ?_, ?_⟩, fun m hm => ?_⟩
    · exact (sb.2 _ D.TIz).trans (k _ _ D.TIz D.TITO D.TIi1 D.TIi2 D.TIi3 hTI)
    · exact (sb.2 _ D.TOz).trans TO'
    · exact s1.1.at fun o q => (sb.2 _ D.zi1.symm).trans q
    · exact s2.1.at fun o q => (sb.2 _ D.zi2.symm).trans q
    · exact s3.1.at fun o q => (sb.2 _ D.zi3.symm).trans q
    · have lm : m < s.heap.objs.size := by
        rcases (by simpa using hm : m = z ∨ m = TI ∨ m = TO ∨ m = i1 ∨ m = i2 ∨ m = i3) with q | q | q | q | q | q
        · rw [q]; exact zl
        · rw [q]; exact Heap.lt_size hTI
        · rw [q]; exact Heap.lt_size hTO
        · rw [q]; obtain ⟨_, w1, _⟩ := h1; exact Heap.lt_size w1
        · rw [q]; obtain ⟨_, w1, _⟩ := h2; exact Heap.lt_size w1
        · rw [q]; obtain ⟨_, w1, _⟩ := h3; exact Heap.lt_size w1
      rw [upd_ne (Nat.ne_of_lt lm)]; exact (hf m hm).1
  done := by
    intro X hP hw hK hc i pins s σ H E I hf st hg
    subst hP hw hK
    obtain ⟨hz, hTI, ⟨x0, y0, u0, hTO⟩, h1, h2, h3⟩ := st
    obtain ⟨xs, ys, zs, hqx, hqy, hqz, ln1, ln2, ln3⟩ := hg
    obtain ⟨its, rv, p1, _⟩ := I.tuple hqx; obtain ⟨jts, rw2, p2, _⟩ := I.tuple hqy; obtain ⟨kts, rw3, p3, _⟩ := I.tuple hqz
    have m1 := rv.length; have m2 := rw2.length; have m3 := rw3.length
    have nh : X.A.in1.handled = none := by simp [I.ok.hd hc]
    have dw1 := Draws.tuple (prog := X.prog) (w := X.w) (A := X.A.in1) nh i1 a na its.toArray
    have dw2 := Draws.tuple (prog := X.prog) (w := X.w) (A := X.A.in1) nh i2 b nb jts.toArray
    have dw3 := Draws.tuple (prog := X.prog) (w := X.w) (A := X.A.in1) nh i3 c nc kts.toArray
    exact wpAny_pyNext_zipD3_end D dw1 dw2 dw3 hz hTI hTO ⟨h1, p1⟩ ⟨h2, p2⟩ ⟨h3, p3⟩ (by simp; omega) (by simp; omega) (by simp; omega) (.inl (by simp; omega)) fun g tk k => ⟨rfl, I.turnedL (t' := tk) (ch := [z, TI, TO, i1, i2, i3]) (fun m o hb q =>
      k m o (fun q' => hb (by simp [q'])) (fun q' => hb (by simp [q'])) (fun q' => hb (by simp [q'])) (fun q' => hb (by simp [q'])) (fun q' => hb (by simp [q'])) q) hf⟩
  self := fun A i s Q E st h => wpAny_pyIter_zip st.1 h
def iZip3 (K : PySem.W.Frag) (ta : TA) : TI := fun σ H R => ta σ H fun vs H1 => ∃ a b c xs ys zs, vs = [.ref a, .ref b, .ref c] ∧ SqT K H1 a xs ∧ SqT K H1 b ys ∧ SqT K H1 c zs ∧ R (ItzT3 K a b c) H1
theorem pi_zip3 {X : Cx} {e e2 e3 : Expr} {ta : TA} {p pos tpos : Pos} {elts : List Expr} {kk : Nat} (hg : Gl X "zip") (hm : X.mg "zip" = none) (ha : PA X [e, e2, e3] ta)
    (hs : starEach [e, e2, e3] X.env = (false, eval e X.env) :: starEach [e2, e3] X.env := by rfl) (hpl : (backTo pos (starEach [e2, e3] X.env)).any (·.1) = false := by rfl) :
    PI X (.Tuple elts kk tpos) (.Call (.Name "zip" p) [e, e2, e3] [] pos) (iZip3 X.K ta) := by
  refine ⟨fun pins s σ H R I h => Call_ (ld_blt I hg hm PyProof.Rows.boot_zip (PyProof.Rows.callWith_type1 (thn (ha.run pos pins s σ H _ I h) fun us s1 ⟨vs, H1, I1, r1, q1⟩ => ?_) hs hpl))⟩
  obtain ⟨a, b, c, xs, ys, zs, ex, hqa, hqb, hqc, q⟩ := q1
  subst ex
  cases r1 with | cons ra r1 => cases r1 with | cons rb r1 => cases r1 with | cons rc r1 =>
    cases r1; cases ra; cases rb; cases rc
    obtain ⟨its, _, p1, _⟩ := I1.tuple hqa; obtain ⟨jts, _, p2, _⟩ := I1.tuple hqb; obtain ⟨kts, _, p3, _⟩ := I1.tuple hqc
    have la : a < s1.heap.objs.size := by obtain ⟨_, y, _⟩ := p1; exact Heap.lt_size y
    have lb : b < s1.heap.objs.size := by obtain ⟨_, y, _⟩ := p2; exact Heap.lt_size y
    have lc : c < s1.heap.objs.size := by obtain ⟨_, y, _⟩ := p3; exact Heap.lt_size y
    refine zip_begins3 (begins_tuple a its.toArray) (begins_tuple b jts.toArray) (begins_tuple c kts.toArray) p1 p2 p3 fun g hz hTI hTO g1 g2 g3 _ k => wpAny_pyIter_zip hz ?_
    have I2 : Inv X pins σ H1 { s1 with heap := g } := I1.kept (t' := s1.toks) k
    have sep : ZipSep3 (s1.heap.objs.size + 5) (s1.heap.objs.size + 3) (s1.heap.objs.size + 4) s1.heap.objs.size (s1.heap.objs.size + 1) (s1.heap.objs.size + 2) [s1.heap.objs.size, a] [s1.heap.objs.size + 1, b] [s1.heap.objs.size + 2, c] :=
      zip_sep3 (fp1 := [a]) (fp2 := [b]) (fp3 := [c]) (by simpa using la) (by simpa using lb) (by simpa using lc)
    refine ⟨s1.heap.objs.size + 5, [s1.heap.objs.size + 5, s1.heap.objs.size + 3, s1.heap.objs.size + 4, s1.heap.objs.size, s1.heap.objs.size + 1, s1.heap.objs.size + 2], _, _, H1, rfl, I2, turn_zip3 sep (Nat.ne_of_lt la) (Nat.ne_of_lt (Nat.lt_succ_of_lt lb)) (Nat.ne_of_lt (Nat.lt_succ_of_lt (Nat.lt_succ_of_lt lc))), ⟨hz, hTI, ⟨_, _, _, hTO⟩, ⟨_, g1, rfl, rfl⟩, ⟨_, g2, rfl, rfl⟩, ⟨_, g3, rfl, rfl⟩⟩, fun m hm => ?_, q⟩
    have lm : s1.heap.objs.size ≤ m := by
      rcases (by simpa using hm : m = s1.heap.objs.size + 5 ∨ m = s1.heap.objs.size + 3 ∨ m = s1.heap.objs.size + 4 ∨ m = s1.heap.objs.size ∨ m = s1.heap.objs.size + 1 ∨ m = s1.heap.objs.size + 2) with z | z | z | z | z | z
      all_goals (rw [z]; first | exact Nat.le_add_right _ _ | exact Nat.le_refl _)
    exact I1.fpOk lm (I1.hok.fresh lm)
end Enz

set_option Elab.async false
set_option linter.all false
set_option maxRecDepth 100000
set_option maxHeartbeats 1000000
namespace Dat
open PySem PySem.Spec PyProof.Rows L2
theorem enumTQ {X : Cx} {K : PySem.W.Frag} [Tb K] {e : Expr} {ta : TA} {p pos tpos : Pos} {elts : List Expr} {kk : Nat} (hK : X.K = K) (hg : Gl X "enumerate") (hm : X.mg "enumerate" = none) (ha : PA X [e] ta) (hs : starEach [e] X.env = [(false, eval e X.env)] := by rfl) :
    PI X (.Tuple elts kk tpos) (.Call (.Name "enumerate" p) [e] [] pos) (Enz.iEnumT K ta) := by
  subst hK
  exact Enz.pi_enumT hg hm ha hs
theorem zip3Q {X : Cx} {K : PySem.W.Frag} [Tb K] {e e2 e3 : Expr} {ta : TA} {p pos tpos : Pos} {elts : List Expr} {kk : Nat} (hK : X.K = K) (hg : Gl X "zip") (hm : X.mg "zip" = none) (ha : PA X [e, e2, e3] ta)
    (hs : starEach [e, e2, e3] X.env = (false, eval e X.env) :: starEach [e2, e3] X.env := by rfl) (hpl : (backTo pos (starEach [e2, e3] X.env)).any (·.1) = false := by rfl) :
    PI X (.Tuple elts kk tpos) (.Call (.Name "zip" p) [e, e2, e3] [] pos) (Enz.iZip3 K ta) := by
  subst hK
  exact Enz.pi_zip3 hg hm ha hs hpl
def enumA (ds : List PyData) : List Av := (List.range ds.length).map fun k => .dat (.tuple [.int (k : Nat), ds.getD k .none])
def zipA (ds es : List PyData) : List Av := (List.range ds.length).map fun k => .dat (.tuple [ds.getD k .none, es.getD k .none])
def zip3A (ds es fs : List PyData) : List Av := (List.range ds.length).map fun k => .dat (.tuple [ds.getD k .none, es.getD k .none, fs.getD k .none])
section
variable {K : PySem.W.Frag} [Tb K] {Γ : List (Option Av)} {Ω : AH} {tl : TA} {ds es fs : List PyData}
theorem rng_at {β : Type} {n i : Nat} {f : Nat → β} {b : β} (h : ((List.range n).map f)[i]? = some b) : i < n ∧ b = f i := by
  rw [List.getElem?_map] at h
  by_cases hi : i < n
  · rw [List.getElem?_range hi] at h
    cases h
    exact ⟨hi, rfl⟩
  · rw [List.getElem?_eq_none (by rw [List.length_range]; omega)] at h
    cases h
theorem getD_dq {H : Hp} {vs : List V} {i : Nat} (g : DqAll K H vs ds) (hi : i < ds.length) : ∃ v, vs[i]? = some v ∧ Dq K H v (ds.getD i .none) := by
  rw [List.getD_eq_getElem?_getD]
  have e : ds[i]? = some ds[i] := List.getElem?_eq_getElem hi
  rw [e]
  exact g.get e
theorem walk_enumT {F : Hp} {a : Addr} {xs : List V} (h : SqT K F a xs) (g : DqAll K F xs ds) : WalkA K F (Enz.IteT K a) (enumA ds) := by
  constructor
  · intro Ω H k i b e
    obtain ⟨hi, rfl⟩ := rng_at e
    obtain ⟨v, ev, hv⟩ := getD_dq g hi
    refine ⟨⟨xs, v, sqT_same (k.fr.trans Fz_le) h, ev⟩, fun x H' hy => ?_⟩
    obtain ⟨T, x2, rfl, nT, rfl, f⟩ := hy
    have := f xs (sqT_same (k.fr.trans Fz_le) h)
    rw [ev] at this
    cases this
    exact ⟨same_new nT, .dat (tup_new k nT (.cons (.int _) (.cons (hv.same k.fr) .nil)))⟩
  · intro Ω H k
    exact ⟨xs, sqT_same (k.fr.trans Fz_le) h, by rw [g.length]; simp [enumA]⟩
theorem walk_zipT {F : Hp} {a b : Addr} {xs ys : List V} (h : SqT K F a xs) (g : DqAll K F xs ds) (h2 : SqT K F b ys) (g2 : DqAll K F ys es) (hl : ds.length = es.length) : WalkA K F (RZ.ItzT K a b) (zipA ds es) := by
  constructor
  · intro Ω H k i c e
    obtain ⟨hi, rfl⟩ := rng_at e
    obtain ⟨v, ev, hv⟩ := getD_dq g hi
    obtain ⟨u, eu, hu⟩ := getD_dq g2 (i := i) (by omega)
    refine ⟨⟨xs, ys, v, u, sqT_same (k.fr.trans Fz_le) h, sqT_same (k.fr.trans Fz_le) h2, ev, eu⟩, fun x H' hy => ?_⟩
    obtain ⟨T, x2, y2, rfl, nT, rfl, f, f2⟩ := hy
    have t1 := f xs (sqT_same (k.fr.trans Fz_le) h)
    have t2 := f2 ys (sqT_same (k.fr.trans Fz_le) h2)
    rw [ev] at t1
    rw [eu] at t2
    cases t1
    cases t2
    exact ⟨same_new nT, .dat (tup_new k nT (.cons (hv.same k.fr) (.cons (hu.same k.fr) .nil)))⟩
  · intro Ω H k
    exact ⟨xs, ys, sqT_same (k.fr.trans Fz_le) h, sqT_same (k.fr.trans Fz_le) h2, .inl (by rw [g.length]; simp [zipA])⟩
theorem walk_zip3 {F : Hp} {a b c : Addr} {xs ys zs : List V} (h : SqT K F a xs) (g : DqAll K F xs ds) (h2 : SqT K F b ys) (g2 : DqAll K F ys es) (h3 : SqT K F c zs) (g3 : DqAll K F zs fs) (hl : ds.length = es.length) (hl2 : ds.length = fs.length) : WalkA K F (Enz.ItzT3 K a b c) (zip3A ds es fs) := by
  constructor
  · intro Ω H k i m e
    obtain ⟨hi, rfl⟩ := rng_at e
    obtain ⟨v, ev, hv⟩ := getD_dq g hi
    obtain ⟨u, eu, hu⟩ := getD_dq g2 (i := i) (by omega)
    obtain ⟨t, et, ht⟩ := getD_dq g3 (i := i) (by omega)
    refine ⟨⟨xs, ys, zs, v, u, t, sqT_same (k.fr.trans Fz_le) h, sqT_same (k.fr.trans Fz_le) h2, sqT_same (k.fr.trans Fz_le) h3, ev, eu, et⟩, fun x H' hy => ?_⟩
    obtain ⟨T, x2, y2, z2, rfl, nT, rfl, f, f2, f3⟩ := hy
    have t1 := f xs (sqT_same (k.fr.trans Fz_le) h)
    have t2 := f2 ys (sqT_same (k.fr.trans Fz_le) h2)
    have t3 := f3 zs (sqT_same (k.fr.trans Fz_le) h3)
    rw [ev] at t1
    rw [eu] at t2
    rw [et] at t3
    cases t1
    cases t2
    cases t3
    exact ⟨same_new nT, .dat (tup_new k nT (.cons (hv.same k.fr) (.cons (hu.same k.fr) (.cons (ht.same k.fr) .nil))))⟩
  · intro Ω H k
    have := g.length
    have := g2.length
    have := g3.length
    refine ⟨xs, ys, zs, sqT_same (k.fr.trans Fz_le) h, sqT_same (k.fr.trans Fz_le) h2, sqT_same (k.fr.trans Fz_le) h3, ?_, ?_, ?_⟩ <;> (simp [zip3A]; omega)
theorem i_enumT {P : List Av → AH → Prop} (h : AW K tl Γ Ω fun as Ω1 => ∃ ds, as = [.dat (.tuple ds)] ∧ P (enumA ds) Ω1) : IW K (Enz.iEnumT K tl) Γ Ω P := fun F σ H R k q =>
  h F σ H _ k fun as vs Ω1 H1 ⟨ds, e, hp⟩ k1 v1 => by
    subst e
    cases v1 with | cons va v1 => cases v1; cases va with | dat va => cases va with | tup hs g =>
      exact ⟨_, _, rfl, sqT_same Fz_le hs, q _ _ _ _ hp k1 (walk_enumT hs g)⟩
theorem i_zipT {P : List Av → AH → Prop} (h : AW K tl Γ Ω fun as Ω1 => ∃ ds es, as = [.dat (.tuple ds), .dat (.tuple es)] ∧ ds.length = es.length ∧ P (zipA ds es) Ω1) : IW K (RZ.iZipA K tl) Γ Ω P := fun F σ H R k q =>
  h F σ H _ k fun as vs Ω1 H1 ⟨ds, es, e, hl, hp⟩ k1 v1 => by
    subst e
    cases v1 with | cons va v1 => cases v1 with | cons vb v1 => cases v1; cases va with | dat va => cases vb with | dat vb => cases va with | tup hs g => cases vb with | tup hs2 g2 =>
      exact ⟨_, _, _, _, rfl, .inr ⟨sqT_same Fz_le hs, sqT_same Fz_le hs2, q _ _ _ _ hp k1 (walk_zipT hs g hs2 g2 hl)⟩⟩
theorem i_zip3 {P : List Av → AH → Prop} (h : AW K tl Γ Ω fun as Ω1 => ∃ ds es fs, as = [.dat (.tuple ds), .dat (.tuple es), .dat (.tuple fs)] ∧ ds.length = es.length ∧ ds.length = fs.length ∧ P (zip3A ds es fs) Ω1) : IW K (Enz.iZip3 K tl) Γ Ω P := fun F σ H R k q =>
  h F σ H _ k fun as vs Ω1 H1 ⟨ds, es, fs, e, hl, hl2, hp⟩ k1 v1 => by
    subst e
    cases v1 with | cons va v1 => cases v1 with | cons vb v1 => cases v1 with | cons vc v1 => cases v1; cases va with | dat va => cases vb with | dat vb => cases vc with | dat vc => cases va with | tup hs g => cases vb with | tup hs2 g2 => cases vc with | tup hs3 g3 =>
      exact ⟨_, _, _, _, _, _, rfl, sqT_same Fz_le hs, sqT_same Fz_le hs2, sqT_same Fz_le hs3, q _ _ _ _ hp k1 (walk_zip3 hs g hs2 g2 hs3 g3 hl hl2)⟩
/-! range(i, j, -1) -/
def rngC (lo c : Int) (n : Nat) : List Av := (List.range n).map fun k => .dat (.int (lo + (k : Nat) * c))
theorem walk_rc {F : Hp} (lo c : Int) (n : Nat) : WalkA K F (Itc lo c n) (rngC lo c n) := by
  constructor
  · intro Ω H k i b e
    obtain ⟨hi, rfl⟩ := rng_at e
    exact ⟨hi, fun x H' hy => by
      obtain ⟨rfl, rfl⟩ := hy
      exact ⟨Same.refl _, .dat (.int _)⟩⟩
  · intro Ω H k
    show n ≤ (rngC lo c n).length
    simp [rngC]
theorem i_rngD {P : List Av → AH → Prop} (h : AW K tl Γ Ω fun as Ω1 => ∃ i j : Int, as = [.dat (.int i), .dat (.int j), .dat (.int (-1))] ∧ (-(2 ^ 62) ≤ i ∧ i < 2 ^ 62 ∧ -(2 ^ 62) ≤ j ∧ j < 2 ^ 62) ∧ P (rngC i (-1) (i - j).toNat) Ω1) : IW K (iRng3 tl) Γ Ω P := fun F σ H R k q =>
  h F σ H _ k fun as vs Ω1 H1 ⟨i, j, e, b, hp⟩ k1 v1 => by
    subst e
    cases v1 with | cons va v1 => cases v1 with | cons vb v1 => cases v1 with | cons vc v1 => cases v1; cases va with | dat va => cases vb with | dat vb => cases vc with | dat vc =>
      cases va
      cases vb
      cases vc
      exact ⟨i, j, -1, _, rfl, RgC.neg b.1 b.2.1 b.2.2.1 b.2.2.2, q _ _ _ _ hp k1 (walk_rc i (-1) _)⟩
/-! lists held alone -/
variable {p : Addr} {P : Av → AH → Prop} {t : TS} {E : EndA} {te : TE}
theorem s_forget (e : Ω p = some (ds.map .dat)) (h : SW K t Γ (del Ω p) E) : SW K t Γ Ω E := fun F σ H D k e' => h F σ H D (k.frz e).1 e'
theorem e_slP {tl th : TO} (h : EW K te Γ Ω fun a Ω1 => ∃ p ds, a = .ptr p ∧ Ω1 p = some (ds.map .dat) ∧ OW K tl Γ Ω1 fun lo Ω2 => Ω2 = Ω1 ∧ OW K th Γ Ω2 fun hi Ω3 => Ω3 = Ω1 ∧ P (.dat (.list (cutD ds lo hi))) Ω3) : EW K (tSl (rSlL K) te tl th) Γ Ω P := fun F σ H Q k q =>
  h F σ H _ k fun a v Ω1 H1 ⟨p, ds, e, o, h1⟩ k1 v1 => by
    subst e
    cases v1
    refine h1 (Fz Ω1 H1) σ H1 _ k1.re fun lo Ω2 H2 ⟨e2, h2⟩ k2 => ?_
    subst e2
    refine h2 _ σ H2 _ k2.re fun hi Ω3 H3 ⟨e3, h3⟩ k3 => ?_
    subst e3
    obtain ⟨xs, hx, g⟩ := k3.st p _ o
    exact ⟨_, _, rfl, SqL.of hx, fun u nu => q _ _ _ _ h3 ((k3.anchor (k1.fr.trans k2.fr)).same (same_new nu)) (.dat (lst_new k3 nu (g.dats.cut lo hi)))⟩
/-- [x] * n -/
theorem r_repL {k : Int} (h1 : 0 ≤ k) (h2 : k ≤ 10000) (hl : ds.length ≤ 5) (h : P (.dat (.list (List.replicate k.toNat ds).flatten)) Ω) : R2W K rRep (.dat (.list ds)) (.dat (.int k)) Ω P := fun F H x y Q kk hx hy q => by
  cases hx with | dat hx => cases hy with | dat hy =>
    cases hy
    cases hx with | lst hs g =>
      have l := g.length
      have z : ds.length * k.toNat ≤ 5 * 10000 := Nat.mul_le_mul hl (by omega)
      refine ⟨_, k, _, rfl, rfl, Fz_le _ _ hs, by omega, by omega, by rw [l]; exact sz_of (by omega), fun u nu => q _ _ _ _ h (kk.same (same_new nu)) (.dat (lst_new kk nu (dqAll_flat' g _)))⟩
theorem flat_one {α : Type} (x : α) : ∀ n : Nat, (List.replicate n [x]).flatten = List.replicate n x
  | 0 => rfl
  | n + 1 => by rw [List.replicate_succ, List.flatten_cons, flat_one x n, List.replicate_succ]; rfl
/-- a new list that changes no more -/
theorem frzNew {L : List PyData} (h : P (.dat (.list L)) Ω) : ∀ q, Ω q = none → (fun a Ω' => ∃ p ds, a = .ptr p ∧ Ω' p = some (ds.map .dat) ∧ P (.dat (.list ds)) (del Ω' p)) (Av.ptr q) (put Ω q (L.map .dat)) := fun q nq =>
  ⟨q, L, rfl, put_same, by rw [del_put nq]; exact h⟩
end
end Dat

set_option Elab.async false
set_option linter.all false
set_option maxRecDepth 100000
set_option maxHeartbeats 1000000
namespace Dat
open PySem PySem.Spec PyProof.Rows L2
section
variable {K : PySem.W.Frag} [Tb K]
theorem r_ixL_any {Ω : AH} {ds : List PyData} {v : Int} {P : Av → AH → Prop} (h0 : 0 ≤ v) (h1 : v < ds.length) (h : ∀ d ∈ ds, P (.dat d) Ω) : R2W K (rIxL K) (.dat (.list ds)) (.dat (.int v)) Ω P := by
  obtain ⟨n, rfl⟩ : ∃ n : Nat, v = n := ⟨v.toNat, (Int.toNat_of_nonneg h0).symm⟩
  have hn : n < ds.length := by omega
  exact r_ixL (atI_nat' (List.getElem?_eq_getElem hn)) (h _ (List.getElem_mem hn))
def intsOf (ds : List PyData) : List Int := ds.map fun | .int i => i | _ => 0
theorem r_ixL_ints {Ω : AH} {ds : List PyData} {v : Int} {P : Av → AH → Prop} (lo hi : Int) (e : ds = (intsOf ds).map PyData.int) (hb : ∀ n ∈ intsOf ds, lo ≤ n ∧ n ≤ hi) (h0 : 0 ≤ v) (h1 : v < ds.length)
    (h : ∀ n, lo ≤ n → n ≤ hi → P (.dat (.int n)) Ω) : R2W K (rIxL K) (.dat (.list ds)) (.dat (.int v)) Ω P :=
  r_ixL_any h0 h1 fun d hd => by
    rw [e] at hd
    obtain ⟨n, hn, rfl⟩ := List.mem_map.mp hd
    exact h n (hb n hn).1 (hb n hn).2
/-- a literal list of numbers -/
def tLits : List Int → TA
  | [] => tNil
  | n :: r => tCons (tC (.int n)) (tLits r)
theorem a_lits {Γ : List (Option Av)} {Ω : AH} : ∀ (ns : List Int) {P : List Av → AH → Prop}, P ((ns.map PyData.int).map .dat) Ω → AW K (tLits ns) Γ Ω P
  | [], _, h => a_nil h
  | n :: r, _, h => a_cons (e_int (a_lits r h))
theorem e_lits {Γ : List (Option Av)} {Ω : AH} {P : Av → AH → Prop} (ns : List Int) (h : P (.dat (.list (ns.map PyData.int))) Ω) (hl : Nat.ble ns.length 100000 = true := by rfl) : EW K (tLst (tLits ns)) Γ Ω P :=
  e_lst (a_lits ns ⟨_, rfl, by rw [List.length_map]; exact Nat.le_of_ble_eq_true hl, h⟩)
theorem put_comm {Ω : AH} {p q : Addr} {as bs : List Av} (h : p ≠ q) : put (put Ω p as) q bs = put (put Ω q bs) p as := by
  refine AH.ext (fun a => ?_) rfl
  unfold put
  dsimp only
  by_cases e1 : a = q
  · by_cases e2 : a = p
    · exact absurd (e2.symm.trans e1) h
    · rw [if_pos e1, if_neg e2, if_pos e1]
  · rw [if_neg e1, if_neg e1]
end
end Dat

set_option Elab.async false
set_option linter.all false
set_option maxRecDepth 100000
set_option maxHeartbeats 1000000
/-! lambdas that hold data, handed to defs of the text -/
namespace Dat
open PySem PySem.Spec PyProof.Rows L2 LamX NdefX Clo
abbrev LSp := List PyData → ASp
def spL (K : PySem.W.Frag) [Tb K] (sp : LSp) : List (Option V) → Sp := fun ws vs H Q _ => ∃ (F : Hp) (Ω : AH) (as : List Av) (P : Av → AH → Prop) (cap : List (V × PyData)), Ok K F Ω [] [] H ∧ VAll K (Fz Ω H) as vs ∧ ws = cap.map (fun c => some c.1) ∧
  (∀ c ∈ cap, Dq K (Fz Ω H) c.1 c.2) ∧ sp (cap.map (·.2)) as Ω P ∧ ∀ a v Ω' H', P a Ω' → Ok K F Ω' [] [] H' → VOk K (Fz Ω' H') a v → Q v H'
/-- what a def promises that is given a lambda -/
abbrev CSp := Addr → Addr → List (V × PyData) → ASp
def spCl (K : PySem.W.Frag) [Tb K] (sp : CSp) (f c' : Addr) : List (Option V) → Sp := fun ws vs H Q _ => ∃ (F : Hp) (Ω : AH) (as : List Av) (P : Av → AH → Prop) (cap : List (V × PyData)), Ok K F Ω [] [] H ∧ VAll K (Fz Ω H) as vs ∧ ws = cap.map (fun c => some c.1) ∧
  sp f c' cap as Ω P ∧ ∀ a v Ω' H', P a Ω' → Ok K F Ω' [] [] H' → VOk K (Fz Ω' H') a v → Q v H'
theorem Slots.app {K : PySem.W.Frag} {F : Hp} : ∀ {Γ Γ2 : List (Option Av)} {σ σ2 : List (Option V)}, Slots K F Γ σ → Slots K F Γ2 σ2 → Slots K F (Γ ++ Γ2) (σ ++ σ2)
  | _, _, _, _, .nil, h => h
  | _, _, _, _, .no g, h => .no (Slots.app g h)
  | _, _, _, _, .yes v g, h => .yes v (Slots.app g h)
theorem Slots.ofAll {K : PySem.W.Frag} {F : Hp} : ∀ {as : List Av} {vs : List V}, VAll K F as vs → Slots K F (as.map some) (vs.map some)
  | _, _, .nil => .nil
  | _, _, .cons h g => .yes h (Slots.ofAll g)
theorem Slots.ofCap {K : PySem.W.Frag} {F : Hp} : ∀ {cap : List (V × PyData)}, (∀ c ∈ cap, Dq K F c.1 c.2) → Slots K F ((cap.map (·.2)).map fun d => some (Av.dat d)) (cap.map fun c => some c.1)
  | [], _ => .nil
  | c :: r, h => .yes (.dat (h c (List.mem_cons_self ..))) (Slots.ofCap fun x m => h x (List.mem_cons_of_mem _ m))
theorem Slots.rep {K : PySem.W.Frag} {F : Hp} : ∀ n : Nat, Slots K F (List.replicate n none) (List.replicate n none)
  | 0 => .nil
  | n + 1 => .no (Slots.rep n)
section
variable {P : Program} {w : World} {K : PySem.W.Frag} [Tb K] {mg : Str → Option Value} {base : Heap}
theorem lokA_of {N ps fr : List Str} {F : NF} {f : Addr} {k : Nat} {sp : LSp} {body : Expr} (S : NScope N ps fr F.scope) (hb : ∀ (pm ctv : Value) (us : List Value), us.length = ps.length → bindArgs (PySem.W.kla_fn F.name F.qual F.params body F.scope F.cl pm (.ref F.c) ctv) ⟨us, []⟩ = pure (ps.zip us))
    (len : ∀ cs as Ω P, sp cs as Ω P → as.length = ps.length)
    (hbody : ∀ (A : Around) (outer : List Env) (s : Shared) (H : Hp) (E : XK), Room k (A.deeper (envF F f s.heap.objs.size)) →
      ∃ t, PE (ncx CX0 P w K mg base N F f A outer s H E) body t ∧ ∀ cs as Ω P, sp cs as Ω P → EW K t (as.map some ++ ((cs.map fun d => some (Av.dat d)) ++ List.replicate (N.length - as.length - cs.length) none)) Ω P) :
    LOk P w K mg base CX0 (k + 1) f F body ps fr (spL K sp) := by
  refine lok_of S hb (fun ws vs H Q E h => ?_) (fun A outer s H vs ws Q E hr hl h => ?_)
  · obtain ⟨F0, Ω, as, P, cap, k0, va, ew, g, h, q⟩ := h
    exact va.length.trans (len _ _ _ _ h)
  · obtain ⟨t, ht, hs⟩ := hbody A outer s H E hr
    obtain ⟨F0, Ω, as, P, cap, k0, va, rfl, g, h, q⟩ := h
    refine ⟨t, ht, hs _ as Ω P h F0 _ H Q ⟨k0.fr, k0.st, ?_, k0.tb, k0.ob⟩ fun a v Ω' H' hp k' hv => q a v Ω' H' hp k'.bare hv⟩
    unfold startF
    rw [va.length, List.length_map, List.length_map]
    exact (Slots.ofAll va).app ((Slots.ofCap g).app (Slots.rep _))
theorem fncA_of {x qual : Str} {st : Stmt} {g : Addr} {gd : FuncData} {N ps : List Str} {cl : List (Str × Addr)} {fr : List Str} {k : Nat} {sp : CSp} {f c' : Addr} (F : L2.Fun K x qual st g gd) (S : FnScope N ps (defScope st))
    (hbody : ∀ (cap : List (V × PyData)) (cdv : Value) (A : Around) (outer : List Env) (s : Shared) (H : Hp) (E : XK), Room k (A.deeper (envOfC qual (defScope st) s.heap.objs.size g cdv)) → CellsAt cl fr (cap.map fun c => some c.1) s.heap H →
      ∃ t, PSs (cxOf CX0 P w K mg base N qual (defScope st) g cdv A outer s H E).nox (defBody st) t ∧ ∀ as Ω P, sp f c' cap as Ω P → SW K t (as.map some ++ List.replicate (N.length - as.length) none) Ω { nx := fun _ Ω' => P (.dat .none) Ω', rt := P }) :
    FnC P w K mg base CX0 (k + 1) g gd ps cl fr (spCl K sp f c') := by
  refine fnc_of F S fun cdv A outer s H vs ws Q E hr C h => ?_
  obtain ⟨F0, Ω, as, P, cap, k0, va, rfl, h, q⟩ := h
  obtain ⟨t, ht, hs⟩ := hbody cap cdv A outer s H E hr C
  refine ⟨t, ht, hs as Ω P h F0 (L2.start N vs) H _ ⟨k0.fr, k0.st, ?_, k0.tb, k0.ob⟩ ⟨fun Γ' σ' Ω' H' hp k' => q _ _ _ _ hp k'.bare (.dat .non), fun a v Ω' H' hp k' hv => q _ _ _ _ hp k' hv, fun _ _ _ _ z => z.elim, fun _ _ _ _ z => z.elim⟩⟩
  unfold L2.start
  rw [va.length]
  exact Slots.start (N := N) va _
/-- a def whose code object is known -/
structure DefC (K : PySem.W.Frag) (mg : Str → Option Value) (x : Str) (st : Stmt) (ps : List Str) (dvs : List V) (f : Addr) (fd : FuncData) (cw : Addr) : Prop where
  ex : ∃ (oc : Value) (od : Option Addr) (dV kV doc pm : Value) (an : Option Addr) (ct : Value) (osl : Array (Option Value)), fd = PySem.W.fnOf x x (defArgs st) (defBody st) (defScope st) dV kV doc pm an (.ref cw) ct ∧ K.lookup f = some ⟨oc, od, .func fd, osl⟩ ∧ PySem.W.codeIn K (.ref cw) x = true
  g : mg x = some (.ref f)
  kp : PySem.W.keepIn K (.ref f) = true
  b : ∃ ds, Vals dvs ds ∧ Binds K fd ps ds
theorem fnA_okC {x : Str} {st : Stmt} {f : Addr} {fd : FuncData} {N ps : List Str} {dvs : List V} {k : Nat} {sp : ASp} {cw : Addr} (D : DefC K mg x st ps dvs f fd cw) (S : FnScope N ps (defScope st)) (len : ∀ as Ω P, sp as Ω P → as.length = ps.length)
    (hbody : ∀ (A : Around) (outer : List Env) (s : Shared) (H : Hp) (E : XK), Room k (A.deeper (envOfC x (defScope st) s.heap.objs.size f (.ref cw))) →
      ∃ t, PSs (cxOf CX0 P w K mg base N x (defScope st) f (.ref cw) A outer s H E) (defBody st) t ∧ ∀ as Ω P, sp as Ω P → SW K t (as.map some ++ List.replicate (N.length - as.length) none) Ω { nx := fun _ Ω' => P (.dat .none) Ω', rt := P }) :
    FnOk P w K mg base CX0 (k + 1) f fd ps (spA K sp) := by
  obtain ⟨oc, od, dV, kV, doc, pm, an, ct, osl, rfl, lk, hcd⟩ := D.ex
  refine fn_of lk hcd S (spA_len len) fun A outer s H vs Q E hr h => ?_
  obtain ⟨t, ht, hs⟩ := hbody A outer s H E hr
  obtain ⟨F0, Ω, as, P, k0, va, h, hq⟩ := h
  refine ⟨t, ht, hs as Ω P h F0 (L2.start N vs) H _ ⟨k0.fr, k0.st, ?_, k0.tb, k0.ob⟩ ⟨fun Γ' σ' Ω' H' hp k' => hq _ _ _ _ hp k'.bare (.dat .non), fun a v Ω' H' hp k' hv => hq _ _ _ _ hp k' hv, fun _ _ _ _ z => z.elim, fun _ _ _ _ z => z.elim⟩⟩
  unfold L2.start
  rw [va.length]
  exact Slots.start (N := N) va _
end
section
variable {K : PySem.W.Frag} [Tb K] {Γ : List (Option Av)} {Ω : AH} {P : Av → AH → Prop} {ta tc : TE} {t : TA} {i j : Nat} {f c' : Addr} {F : NF} {body : Expr} {sp : LSp} {E : XK} {cap : List (V × PyData)}
theorem e_held (e : Γ[i]? = some (some (.fn f [(f, LamO f F body), (F.c, CodeO F.c F.qual)] cap))) (h : AW K t Γ Ω fun as Ω1 => sp (cap.map (·.2)) as Ω1 P) : EW K (tHeld i f F body (cap.map fun c => some c.1) (spL K sp) E t) Γ Ω P := fun F0 σ H Q k q => by
  obtain ⟨v, ev, hv⟩ := k.val e
  cases hv with
  | fn ho hg =>
    have m1 : (f, LamO f F body) ∈ [(f, LamO f F body), (F.c, CodeO F.c F.qual)] := List.mem_cons_self ..
    have m2 : (F.c, CodeO F.c F.qual) ∈ [(f, LamO f F body), (F.c, CodeO F.c F.qual)] := List.mem_cons_of_mem _ (List.mem_cons_self ..)
    refine ⟨ev, Fz_le _ _ (ho _ m1), h (Fz Ω H) σ H _ k.re fun as vs Ω1 H1 h1 k1 v1 => ?_⟩
    exact ⟨Fz_le _ _ (k1.fr _ _ (ho _ m1)), Fz_le _ _ (k1.fr _ _ (ho _ m2)), Fz Ω1 H1, Ω1, as, P, cap, k1.bare.re, v1, rfl, fun c m => (hg c m).same k1.fr, h1, fun a v Ω' H' hp k' hv => q a v Ω' H' hp ((k1.anchor k.fr).back k') hv⟩
/-- g(a, lambda, c): the lambda holds one name of the running frame -/
theorem e_callL {q : Str} {mk : Addr → NF} {sp : CSp} {d : PyData} (hc : ∀ c', (mk c').c = c') (hq : ∀ c', (mk c').qual = q) (e : Γ[j]? = some (some (.dat d)))
    (h : EW K ta Γ Ω fun a Ω1 => EW K tc Γ Ω1 fun c Ω2 => ∀ f c' sv, sp f c' [(sv, d)] [a, .fn f [(f, LamO f (mk c') body), ((mk c').c, CodeO (mk c').c (mk c').qual)] [(sv, d)], c] Ω2 P) :
    EW K (tCallC [j] (spCl K sp) E (tCons ta (tCons (tLamE (Tb.T (K := K)) q mk body) (tCons tc tNil)))) Γ Ω P := fun F σ H Q k r =>
  h F σ H _ k fun a v Ω1 H1 h1 k1 v1 => ⟨k1.tb, fun f c' Hl x1 nn hT1 nf ef ec => by
    have kl := k1.ext x1 hT1
    refine h1 (Fz Ω1 Hl) σ Hl _ kl.re fun c u Ω2 H2 h2 k2 v2 => ?_
    obtain ⟨sv, esv, hsv⟩ := k2.val e
    have nf1 : Ω1.Off f := k1.off nf
    have nc1 : Ω1.Off c' := by
      constructor
      · cases z : Ω1 c' with
        | none => rfl
        | some as =>
          obtain ⟨xs, e1, _⟩ := kl.st c' as z
          rw [ec] at e1
          cases e1
      · cases z : Ω1.o c' with
        | none => rfl
        | some u =>
          obtain ⟨y, e1, e2⟩ := kl.ob c' u z
          rw [ec] at e1
          cases e1
          exact absurd rfl (e2.ncode _ _)
    have g1 : Fz Ω2 H2 f = some (LamO f (mk c') body) := k2.fr _ _ (Fz_to nf1 ef fun q z => by cases z)
    have g2 : Fz Ω2 H2 c' = some (CodeO c' q) := k2.fr _ _ (Fz_to nc1 ec fun q z => by cases z)
    refine ⟨f, c', Fz Ω2 H2, Ω2, _, P, [(sv, d)], k2.bare.re, .cons ((v1.same (Fz_ext x1)).same k2.fr) (.cons (.fn (fun p m => ?_) fun c m => ?_) (.cons v2 .nil)), ?_, h2 f c' sv, fun a v Ω' H' hp k' hv => r a v Ω' H' hp ((k2.anchor kl.fr).back k') hv⟩
    · rw [List.mem_cons, List.mem_singleton] at m
      rcases m with rfl | rfl
      · exact g1
      · show Fz Ω2 H2 (mk c').c = some (CodeO (mk c').c (mk c').qual)
        rw [hc, hq]
        exact g2
    · rw [List.mem_singleton] at m
      subst m
      cases hsv with | dat hd => exact hd
    · show [NdefX.slotAt σ j] = [some sv]
      unfold NdefX.slotAt
      rw [esv]⟩
/-- a list that is to change no more -/
theorem Slots.same' {F : Hp} {Γ : List (Option Av)} {σ : List (Option V)} {p : Addr} {d : PyData} : ∀ {Γ : List (Option Av)} {σ : List (Option V)} (i : Nat), Slots K F Γ σ → Γ[i]? = some (some (.ptr p)) → Dq K F (.ref p) d → Slots K F (Γ.set i (some (.dat d))) σ
  | _, _, _, .nil, e, _ => by simp at e
  | _, _, 0, .no _, e, _ => by simp at e
  | _, _, 0, .yes h g, e, hd => by
    rw [List.getElem?_cons_zero] at e
    cases e
    cases h
    exact .yes (.dat hd) g
  | _, _, i + 1, .no g, e, hd => by
    rw [List.getElem?_cons_succ] at e
    exact .no (Slots.same' (Γ := Γ) (σ := σ) i g e hd)
  | _, _, i + 1, .yes h g, e, hd => by
    rw [List.getElem?_cons_succ] at e
    exact .yes h (Slots.same' (Γ := Γ) (σ := σ) i g e hd)
theorem s_frz {t : TS} {E : EndA} {p : Addr} {ds : List PyData} (i : Nat) (es : Γ[i]? = some (some (.ptr p))) (e : Ω p = some (ds.map .dat)) (h : SW K t (Γ.set i (some (.dat (.list ds)))) (del Ω p) E) : SW K t Γ Ω E := fun F σ H D k e' => by
  obtain ⟨k2, d2⟩ := k.frz e
  exact h F σ H D ⟨k2.fr, k2.st, Slots.same' (Γ := Γ) (σ := σ) i k2.sl es d2, k2.tb, k2.ob⟩ e'
end
end Dat

set_option Elab.async false
set_option linter.all false
set_option maxRecDepth 100000
set_option maxHeartbeats 1000000
namespace Dat
open PySem PySem.Spec PyProof.Rows L2
/-! truths of values; list.pop(0), list.index, enumerate of a list -/
def tTru (K : PySem.W.Frag) (ta : TE) : TT := fun σ H Q => ta σ H fun x H' => ∃ k, TruV K x H' k ∧ Q k H'
section
variable {X : Cx} {K : PySem.W.Frag}
theorem truQ {a : Expr} {ta : TE} (hK : X.K = K) (ha : PE X a ta) (he : ∀ whole, isTrue a X.env whole = (do let v ← whole; standAt a.pos; holding [v] (truthy v)) := by intro _; rfl) : PT X a (tTru K ta) := by
  subst hK
  exact pt_truth ha he
theorem popAtQ {o e : Expr} {to : TE} {t : TA} {apos cpos : Pos} (hK : X.K = K) (ho : PE X o to) (ha : PA X [e] t)
    (hbase : attributeBase o "pop" X.env (eval o X.env) = eval o X.env := by rfl)
    (hfew : ((backTo cpos (starEach [e] X.env)).all (fun x => !x.1) && (backToKw cpos (keywordEach [] X.env)).all (fun x => x.1.isSome)
      && decide ([e].length + ([] : List Keyword).length + (if ([] : List Keyword).isEmpty then 0 else 1) < 30)) = true := by rfl)
    (hline : (apos.endLine == cpos.line) = true := by rfl) (hs : starEach [e] X.env = (false, eval e X.env) :: starEach [] X.env := by rfl) (hplain : (backTo cpos (starEach [] X.env)).any (·.1) = false := by rfl) :
    PE X (.Call (.Attribute o "pop" apos) [e] [] cpos) (tBM K "list" rPopAt to t) := by
  subst hK
  exact pe_bm PySem.F.plainAttrs_list PySem.F.slot_list_pop PySem.F.type_list_pop mt_popAt ho ha hbase hfew hline hs hplain
theorem indexQ {o e : Expr} {to : TE} {t : TA} {apos cpos : Pos} (hK : X.K = K) (ho : PE X o to) (ha : PA X [e] t)
    (hbase : attributeBase o "index" X.env (eval o X.env) = eval o X.env := by rfl)
    (hfew : ((backTo cpos (starEach [e] X.env)).all (fun x => !x.1) && (backToKw cpos (keywordEach [] X.env)).all (fun x => x.1.isSome)
      && decide ([e].length + ([] : List Keyword).length + (if ([] : List Keyword).isEmpty then 0 else 1) < 30)) = true := by rfl)
    (hline : (apos.endLine == cpos.line) = true := by rfl) (hs : starEach [e] X.env = (false, eval e X.env) :: starEach [] X.env := by rfl) (hplain : (backTo cpos (starEach [] X.env)).any (·.1) = false := by rfl) :
    PE X (.Call (.Attribute o "index" apos) [e] [] cpos) (tBM K "list" (rIndex K) to t) := by
  subst hK
  exact pe_bm PySem.F.plainAttrs_list PySem.F.slot_list_index PySem.F.type_list_index mt_index ho ha hbase hfew hline hs hplain
end
section
variable {K : PySem.W.Frag} [Tb K] {Γ : List (Option Av)} {Ω : AH} {ta : TE} {tl : TA} {ds es fs : List PyData}
theorem DqAll.emp {H : Hp} {vs : List V} (g : DqAll K H vs ds) : (!ds.isEmpty) = !vs.isEmpty := by
  cases g <;> rfl
theorem t_truT {P : Bool → AH → Prop} (h : EW K ta Γ Ω fun a Ω1 => ∃ ds, a = .dat (.tuple ds) ∧ P (!ds.isEmpty) Ω1) : TW K (tTru K ta) Γ Ω P := fun F σ H Q k q =>
  h F σ H _ k fun a v Ω' H' ⟨ds, e, hp⟩ k' hv => by
    subst e
    cases hv with
    | dat hv =>
      cases hv with
      | tup hs g =>
        refine ⟨_, .inr (.inl ⟨_, sqT_same Fz_le hs, rfl⟩), ?_⟩
        rw [← g.emp]
        exact q _ Ω' H' hp k'
theorem e_pop0 {P : Av → AH → Prop} (h : EW K ta Γ Ω fun a Ω1 => ∃ p, a = .ptr p ∧ (∃ bs, Ω1 p = some bs) ∧ AW K tl Γ Ω1 fun cs Ω2 => ∃ b as, cs = [.dat (.int 0)] ∧ Ω2 p = some (b :: as) ∧ P b (put Ω2 p as)) : EW K (tBM K "list" rPopAt ta tl) Γ Ω P := fun F σ H Q k q =>
  h F σ H _ k fun a v Ω1 H1 ⟨p, ea, ⟨bs, eb⟩, h1⟩ k1 v1 => by
    subst ea
    cases v1
    obtain ⟨zs, hz, _⟩ := k1.st p bs eb
    refine ⟨.inl ⟨rfl, _, SqL.of hz⟩, h1 F σ H1 _ k1 fun cs vs Ω2 H2 ⟨b, as, ec, e2, hp⟩ k2 v2 => ?_⟩
    subst ec
    cases v2 with | cons vb v2 =>
      cases v2
      cases vb with | dat vb =>
      cases vb
      obtain ⟨xs, hx, g⟩ := k2.st p _ e2
      cases g with | cons hb g =>
      rename_i y ys
      refine ⟨p, _, 0, 0, y, rfl, rfl, hx, by decide, by decide, ?_, rfl, ?_⟩
      · simp [seqIndex?]
      · have k3 := k2.put e2 g
        have e3 : Fz (put Ω2 p as) (upd H2 p (.lst ys)) = Fz Ω2 H2 := Fz_put e2
        exact q _ _ _ _ hp k3 (by show VOk K (Fz _ (upd H2 p (.lst ys))) b y; rw [e3]; exact hb)
theorem e_idx {P : Av → AH → Prop} (h : EW K ta Γ Ω fun a Ω1 => ∃ ds, a = .dat (.list ds) ∧ ds.all canFlat = true ∧ AW K tl Γ Ω1 fun cs Ω2 => ∃ d e j, cs = [.dat d] ∧ canFlat d = true ∧ ds[j]? = some e ∧ PyData.eqv e d = true ∧ (∀ m e', m < j → ds[m]? = some e' → PyData.eqv e' d = false) ∧ P (.dat (.int (j : Nat))) Ω2) : EW K (tBM K "list" (rIndex K) ta tl) Γ Ω P := fun F σ H Q k q =>
  h F σ H _ k fun a v Ω1 H1 ⟨ds, ea, ef, h1⟩ k1 v1 => by
    subst ea
    cases v1 with | dat v1 =>
    cases v1 with | lst hs g =>
    refine ⟨.inl ⟨rfl, _, SqL.of (Fz_le _ _ hs)⟩, h1 (Fz Ω1 H1) σ H1 _ k1.re fun cs vs Ω2 H2 ⟨d, e, j, ec, fd, ej, ev, no, hp⟩ k2 v2 => ?_⟩
    subst ec
    cases v2 with | cons vb v2 =>
      cases v2
      cases vb with | dat vb =>
      have g2 := g.same k2.fr
      obtain ⟨z, ez, hz⟩ := g2.get ej
      have fe : canFlat e = true := List.all_eq_true.mp ef e (List.mem_of_getElem? ej)
      refine ⟨_, _, _, j, z, rfl, rfl, SqL.of (Fz_le _ _ (k2.fr _ _ hs)), dq_flat vb fd, dqAll_flat g2 ef, ez, by rw [dq_eqv hz vb fe fd]; exact ev, fun m z' hm ez' => ?_, q _ _ _ _ hp (k2.anchor k1.fr) (.dat (.int _))⟩
      obtain ⟨e', ee, he⟩ := g2.getV ez'
      rw [dq_eqv he vb (List.all_eq_true.mp ef e' (List.mem_of_getElem? ee)) fd]
      exact no m e' hm ee
theorem walk_enumL {F : Hp} {a : Addr} {xs : List V} (h : F a = some (.lst xs)) (g : DqAll K F xs ds) : WalkA K F (L2.Ite K a) (enumA ds) := by
  constructor
  · intro Ω H k i b e
    obtain ⟨hi, rfl⟩ := rng_at e
    obtain ⟨v, ev, hv⟩ := getD_dq g hi
    refine ⟨⟨xs, v, SqL.of (k.fr.trans Fz_le _ _ h), ev⟩, fun x H' hy => ?_⟩
    obtain ⟨T, x2, rfl, nT, rfl, f⟩ := hy
    have := f xs (SqL.of (k.fr.trans Fz_le _ _ h))
    rw [ev] at this
    cases this
    exact ⟨same_new nT, .dat (tup_new k nT (.cons (.int _) (.cons (hv.same k.fr) .nil)))⟩
  · intro Ω H k
    exact ⟨xs, SqL.of (k.fr.trans Fz_le _ _ h), by rw [g.length]; simp [enumA]⟩
theorem i_enumL {P : List Av → AH → Prop} (h : AW K tl Γ Ω fun as Ω1 => ∃ ds, as = [.dat (.list ds)] ∧ P (enumA ds) Ω1) : IW K (iEnum K tl) Γ Ω P := fun F σ H R k q =>
  h F σ H _ k fun as vs Ω1 H1 ⟨ds, e, hp⟩ k1 v1 => by
    subst e
    cases v1 with | cons v1 v2 =>
      cases v2
      cases v1 with | dat v1 =>
        cases v1 with | lst hs g =>
          exact ⟨_, _, rfl, SqL.of (Fz_le _ _ hs), q _ _ _ _ hp k1 (walk_enumL hs g)⟩
theorem enumA_at {ds : List PyData} {i : Nat} {a : Av} (h : (enumA ds)[i]? = some a) : ∃ d, ds[i]? = some d ∧ a = .dat (.tuple [.int (i : Nat), d]) := by
  obtain ⟨hi, rfl⟩ := rng_at h
  exact ⟨ds[i], List.getElem?_eq_getElem hi, by rw [List.getD_eq_getElem?_getD, List.getElem?_eq_getElem hi]; rfl⟩
theorem enumA_len {ds : List PyData} : (enumA ds).length = ds.length := by
  unfold enumA
  rw [List.length_map, List.length_range]
end
end Dat

set_option Elab.async false
set_option linter.all false
set_option maxRecDepth 100000
set_option maxHeartbeats 1000000
namespace Dat
open PySem PySem.Spec PyProof.Rows L2
theorem pgLQ {X : Cx} {K : PySem.W.Frag} {es : List Expr} {k : Nat} {t : TGs} {n : Nat} {pos : Pos} (hK : X.K = K) (hc : X.calm = true) (h : PGs X es t)
    (hn : (assignEach es X.env).length = n := by rfl) (hst : (assignEach es X.env).findIdx? (·.1) = none := by rfl) : PG X (.Tuple es k pos) (gLst K n t) := by subst hK; exact pg_lst hc h hn hst
abbrev IsI (i : Int) (Ω : AH) : Av → AH → Prop := fun a Ω' => a = .dat (.int i) ∧ Ω' = Ω
section
variable {K : PySem.W.Frag} [Tb K] {Γ : List (Option Av)} {Ω : AH} {gs : TGs} {ds : List PyData} {ta tb tc : TE}
theorem g_lst {n : Nat} {P : List (Option Av) → AH → Prop} (l : ds.length = n) (h : GsW K gs (ds.map .dat) Γ Ω P) : GW K (gLst K n gs) (.dat (.list ds)) Γ Ω P := fun F σ H v Q k hv q => by
  cases hv with | dat hv => cases hv with | lst hs g => exact ⟨_, _, rfl, SqL.of (Fz_le _ _ hs), g.length.trans l, h F σ H _ Q k (.ofDats g) q⟩
theorem e_chainB {lo x hi : Int} (h1 : EW K ta Γ Ω (IsI lo Ω)) (h2 : EW K tb Γ Ω (IsI x Ω)) (h3 : EW K tc Γ Ω (IsI hi Ω)) :
    EW K (tChain (rI0 fun i j => .bl (decide (i ≤ j))) (rI0 fun i j => .bl (decide (i ≤ j))) ta tb tc) Γ Ω (IsB (decide (lo ≤ x) && decide (x ≤ hi)) Ω) :=
  e_chain (h1.mono fun a Ω1 ⟨e1, o1⟩ => by
    subst e1 o1
    exact h2.mono fun b Ω2 ⟨e2, o2⟩ => by
      subst e2 o2
      refine r_I0b ⟨_, rfl, fun z => ?_, fun z => ?_⟩
      · exact h3.mono fun d Ω3 ⟨e3, o3⟩ => by
          subst e3 o3
          exact r_I0b ⟨by rw [z, Bool.true_and], rfl⟩
      · exact ⟨by rw [z, Bool.false_and], rfl⟩)
end
section
variable {K : PySem.W.Frag} [Tb K] {Γ : List (Option Av)} {Ω : AH} {tl : TA} {E : EndA}
theorem s_par3 {i j m : Nat} (h : AW K tl Γ Ω fun as Ω1 => ∃ a b c, as = [a, b, c] ∧ E.nx (((Γ.set i (some a)).set j (some b)).set m (some c)) Ω1) : SW K (tPar3 i j m tl) Γ Ω E := fun F σ H D k e =>
  h F σ H _ k fun as vs Ω1 H1 ⟨a, b, c, ea, hp⟩ k1 v1 => by
    subst ea
    cases v1 with | cons va v1 => cases v1 with | cons vb v1 => cases v1 with | cons vc v1 =>
      cases v1
      exact ⟨_, _, _, rfl, e.nx _ _ _ _ hp (((k1.set va i).set vb j).set vc m)⟩
end
theorem eqv_nil : ∀ {ds : List PyData}, PyData.eqv (.list ds) (.list []) = ds.isEmpty
  | [] => by simp [PyData.eqv, PyData.eqvAll]
  | _ :: _ => by simp [PyData.eqv, PyData.eqvAll]
structure Lay (d : PyData) (k : Nat) : Prop where
  c : d.canLay0 = true
  k : d.depth ≤ k
theorem layAll : ∀ {ds : List PyData} {k : Nat}, (∀ d ∈ ds, Lay d k) → PyData.canLayAll0 ds = true ∧ PyData.depthAll ds ≤ k
  | [], _, _ => ⟨by simp [PyData.canLayAll0], by simp [PyData.depthAll]⟩
  | d :: r, k, h => by
    have h1 := h d List.mem_cons_self
    have h2 := layAll (ds := r) (k := k) fun y m => h y (List.mem_cons_of_mem _ m)
    refine ⟨by simp [PyData.canLayAll0, h1.c, h2.1], ?_⟩
    simp only [PyData.depthAll]
    exact Nat.max_le.mpr ⟨h1.k, h2.2⟩
theorem Lay.tup {ds : List PyData} {k : Nat} (h : ∀ d ∈ ds, Lay d k) : Lay (.tuple ds) (k + 1) := by
  obtain ⟨a, b⟩ := layAll h
  exact ⟨by simp only [PyData.canLay0, a], by simp only [PyData.depth]; omega⟩
theorem Lay.lst {ds : List PyData} {k : Nat} (h : ∀ d ∈ ds, Lay d k) : Lay (.list ds) (k + 1) := by
  obtain ⟨a, b⟩ := layAll h
  exact ⟨by simp only [PyData.canLay0, a], by simp only [PyData.depth]; omega⟩
theorem Lay.int (i : Int) : Lay (.int i) 0 := ⟨by simp [PyData.canLay0], by simp [PyData.depth]⟩
theorem Lay.mono {d : PyData} {k j : Nat} (h : Lay d k) (l : k ≤ j) : Lay d j := ⟨h.c, Nat.le_trans h.k l⟩
theorem Lay.shaped {d : PyData} {k : Nat} (h : Lay d k) (l : k ≤ 64) : SeqAt.shaped d = true := by
  rw [SeqAt.shaped, Bool.and_eq_true, decide_eq_true_eq]
  exact ⟨h.c, Nat.le_trans h.k l⟩
theorem lay_map {α : Type} {f : α → PyData} {xs : List α} {k : Nat} (h : ∀ x ∈ xs, Lay (f x) k) : ∀ d ∈ xs.map f, Lay d k := fun d hd => by
  obtain ⟨x, hx, rfl⟩ := List.mem_map.mp hd
  exact h x hx
theorem Lay.str {x : Str} (h : PyData.strOk x = true) : Lay (.str x) 0 := ⟨by simp [PyData.canLay0, h], by simp [PyData.depth]⟩
theorem Lay.none : Lay .none 0 := ⟨by simp [PyData.canLay0], by simp [PyData.depth]⟩
theorem lay_ints (ns : List Int) : ∀ d ∈ ns.map PyData.int, Lay d 0 := lay_map fun i _ => Lay.int i
theorem eqv_lay {d : PyData} {k : Nat} (h : Lay d k) : PyData.eqv d d = true := SeqAt.eqv_refl _ h.c
theorem sh_ints (ns : List Int) : SeqAt.shaped (.list (ns.map PyData.int)) = true := (Lay.lst (lay_ints ns)).shaped (by decide)
end Dat

set_option Elab.async false
set_option linter.all false
set_option maxRecDepth 100000
set_option maxHeartbeats 2000000
namespace Grd
open PySem PySem.Spec PyProof.Rows L2 LamX NdefX Clo
/-- the law's own call, from the head: one table (that of the code object cw), the script -/
theorem law_callG {P : Program} {w : World} {K : PySem.W.Frag} {mg mb : Str → Option Value} {k : Nat} {fa a cw Pw : Addr} {fd : FuncData} {x : Str} {sp : Sp} {s₁ : Shared} {vs : List Value} {ns : List Int}
    (KX : K.In s₁.heap) (hns : s₁.heap.Ns mainGlobals mg) (hb : s₁.heap.Ns builtinsNs mb) (hbb : ∀ x : Str, x ≠ "__name__" → mb x = bootBuiltins x) (hlim : s₁.heap.NoLimit) (hg : s₁.gens = #[])
    (hT : s₁.heap.get? Pw = some { cls := .none, data := .fields #[] }) (nT : K.lookup Pw = none) (C : PySem.W.CodeHd s₁.heap cw Pw)
    (hbm : ∃ (bm : Addr) (ob : Obj), mg "__builtins__" = some (.ref bm) ∧ bm ≠ builtinsNs ∧ s₁.heap.get? bm = some ob ∧ ob.cls = .type "module" ∧ ob.dict = some builtinsNs ∧ ob.data = .plain)
    (ha : s₁.heap.get? a = some { cls := .type "list", data := .seq vs.toArray }) (hi : IntsAre vs ns) (hl : ns.length ≤ sizeLine) (hr : Room k callerA)
    (F : ∀ base : Heap, K.In base → base.Ns mainGlobals mg → TabB base mg cw Pw → FnG P w K mg base CX0 k fa fd [x] sp) (hbind : ∀ (s : Shared) (u : Value), BindsTo s fd ⟨[u], []⟩ [(x, u)])
    (hsp : ∀ H : Hp, H Pw = some (.tbl #[]) → SqL K H a (ns.map V.int) → sp [.ref a] H (fun v _ => v = .bl true) fun _ _ _ => False) :
    codeAny (model P w) callerA (.call (.ref fa) ⟨[.ref a], []⟩) (fun r s' => r = .ok (.ret (.bool true)) ∧ OldK s₁.heap s'.heap ∧ s'.os = s₁.os ∧ AllBare s'.gens) s₁ := by
  have rv := vals_ints hi
  have lenV := hi.length
  have aP : a ≠ Pw := fun z => by
    rw [z, hT] at ha
    have z' : (Data.fields #[] : Data) = Data.seq vs.toArray _ := congrArg Obj.data (Option.some.inj ha)
    cases z'
  -- what is tracked: the table, and the script if the text has not written it
  obtain ⟨scr, hscr⟩ : ∃ scr : Option HO, scr = (match K.lookup a with | some _ => none | none => some (HO.frz { cls := .type "list", data := .seq vs.toArray } (.lst (ns.map V.int)))) := ⟨_, rfl⟩
  obtain ⟨H, hH⟩ : ∃ H : Hp, H = fun b => if b = Pw then some (.tbl #[]) else if b = a then scr else none := ⟨_, rfl⟩
  have HP : H Pw = some (.tbl #[]) := by
    rw [hH]
    exact if_pos rfl
  have Ha : H a = scr := by
    rw [hH]
    show (if a = Pw then _ else if a = a then scr else none) = scr
    rw [if_neg aP, if_pos rfl]
  have Hn : ∀ b, b ≠ Pw → b ≠ a → H b = none := fun b h1 h2 => by
    rw [hH]
    show (if b = Pw then _ else if b = a then scr else none) = none
    rw [if_neg h1, if_neg h2]
  have scrC : scr = none ∨ scr = some (HO.frz { cls := .type "list", data := .seq vs.toArray } (.lst (ns.map V.int))) := by
    rw [hscr]
    cases K.lookup a with
    | some o => exact .inl rfl
    | none => exact .inr rfl
  have free : ∀ {b : Addr} {o : Obj}, s₁.heap.get? b = some o → (∀ v n, o.data ≠ .seq v n) → o.data ≠ .fields #[] → H b = none := fun {b o} e h1 h2 => by
    refine Hn b (fun z => ?_) fun z => ?_
    · rw [z, hT] at e
      cases e
      exact h2 rfl
    · rw [z, ha] at e
      cases e
      exact h1 _ _ rfl
  have freeD : ∀ {b : Addr} {o : Obj} {es : Array DictEntry} {n : Nat}, s₁.heap.get? b = some o → o.data = .dict es n → H b = none := fun {b o es n} e d =>
    free e (fun v m z => by rw [d] at z; cases z) fun z => by rw [d] at z; cases z
  have ns_ : ∀ {b : Addr} {m : Str → Option Value}, s₁.heap.Ns b m → (hidT s₁.heap H).Ns b m := fun {b m} h => by
    obtain ⟨o, es, ep, e, d, r⟩ := h
    exact ⟨o, es, ep, hidT_get e (freeD e d), d, r⟩
  have kb : K.In (hidT s₁.heap H) := fun b o e => by
    refine hidT_get (KX b o e) ?_
    by_cases h1 : b = Pw
    · rw [h1, nT] at e
      cases e
    · by_cases h2 : b = a
      · rw [h2, Ha, hscr]
        rw [h2] at e
        rw [e]
      · exact Hn b h1 h2
  have hok : HOk P w H s₁.heap := fun b u e => by
    by_cases h1 : b = Pw
    · rw [h1, HP] at e
      cases e
      rw [h1]
      exact hT
    · by_cases h2 : b = a
      · rw [h2, Ha] at e
        rcases scrC with z | z
        · rw [z] at e
          cases e
        · rw [z] at e
          cases e
          rw [h2]
          exact ⟨ha, by rw [List.length_map]; exact hl, vs, _, rv, ha⟩
      · rw [Hn b h1 h2] at e
        cases e
  have md : L2.Mod K mg (hidT s₁.heap H) := by
    obtain ⟨mc, h1, h2⟩ := hlim
    exact ⟨kb, ns_ hns, ⟨mb, ns_ hb, hbb⟩, mc, ns_ h1, h2⟩
  have tb : TabB (hidT s₁.heap H) mg cw Pw := by
    constructor
    · obtain ⟨o, us, file, tf, flags, tg, inF, text, tt, e1, r1, r2, r3, r4, r5, r6, r7, r8, hne⟩ := C
      refine ⟨o, us, file, tf, flags, tg, inF, text, tt, hidT_get e1 (free e1 (fun v m z => ?_) fun z => ?_), r1, r2, r3, r4, r5, r6, r7, r8, hne⟩
      · rw [r2] at z
        cases z
      · rw [r2] at z
        cases z
        simp at r3
    · obtain ⟨bm, ob, b1, b2, b3, b4, b5, b6⟩ := hbm
      have nG : bm ≠ mainGlobals := fun z => by
        obtain ⟨o, es, ep, e, hd, _⟩ := hns
        rw [z, e] at b3
        cases b3
        rw [hd] at b6
        cases b6
      have nP : bm ≠ Pw := fun z => by
        rw [z, hT] at b3
        cases b3
        cases b6
      exact ⟨bm, ob, b1, b2, nG, nP, hidT_get b3 (free b3 (fun v m z => by rw [b6] at z; cases z) fun z => by rw [b6] at z; cases z), b4, b5, b6⟩
    · intro z
      obtain ⟨o, es, ep, e, hd, _⟩ := hns
      rw [z, hT] at e
      cases e
      cases hd
  have e0 : Env0 P w K mg (hidT s₁.heap H) callerA [] s₁ H := by
    refine ⟨rfl, md, fun b o e => of_hidT e, Nat.le_of_eq (hidT_size _ _), trivial, fun b hb => ?_, hok, .of_eq hg⟩
    cases (show b ∈ ([] : List Addr) from hb)
  have sq : SqL K H a (ns.map V.int) := by
    cases hk : K.lookup a with
    | some o =>
      have e := KX a o hk
      rw [ha] at e
      cases e
      exact .inr ⟨_, vs.toArray, _, hk, rfl, rfl, rfl, by rw [List.size_toArray, lenV]; exact hl, by simpa using rv⟩
    | none =>
      refine .inl (.inr ⟨{ cls := .type "list", data := .seq vs.toArray }, ?_⟩)
      rw [Ha, hscr, hk]
  refine codeAny_mono ((F _ kb (ns_ hns) tb).run callerA [] s₁ H ⟨[.ref a], []⟩ [.ref a] [.ref a] _ _ hr rfl e0 (hbind s₁ (.ref a)) (.cons rfl .nil) (hsp H HP sq)) fun r s' h => ?_
  cases r with
  | error e => exact (show False from h).elim
  | ok fl =>
    cases fl with
    | next => exact (show False from h).elim
    | brk => exact (show False from h).elim
    | cont => exact (show False from h).elim
    | ret u =>
      obtain ⟨v, H', os, bare, un, hok', r', q⟩ := h
      cases (show v = .bl true from q)
      cases (show u = Value.bool true from r')
      have key : ∀ b o, b ≠ Pw → s₁.heap.get? b = some o → s'.heap.get? b = some o := fun b o nb e => by
        by_cases h2 : b = a
        · rcases scrC with z | z
          · exact un.keep b o e (by rw [h2, Ha, z]) (fun q => by cases (show b ∈ ([] : List Addr) from q)) (fun q => by cases q)
          · have z1 : H b = some (HO.frz { cls := .type "list", data := .seq vs.toArray } (.lst (ns.map V.int))) := by rw [h2, Ha, z]
            obtain ⟨e1, _⟩ := hok b _ z1
            obtain ⟨e2, _⟩ := hok' b _ (un.frzs b _ _ z1)
            rw [e] at e1
            cases e1
            exact e2
        · exact un.keep b o e (Hn b nb h2) (fun q => by cases (show b ∈ ([] : List Addr) from q)) (fun q => by cases q)
      obtain ⟨more, zt⟩ := un.tbls Pw #[] HP
      have grown : s'.heap.get? Pw = some { cls := .none, data := .fields (#[] ++ more) } := hok' Pw _ zt
      refine ⟨rfl, ⟨fun b o e => ?_, fun b o e => ?_⟩, os, bare⟩
      · by_cases h1 : b = Pw
        · rw [h1] at e ⊢
          rw [hT] at e
          cases e
          exact .inr (.inl ⟨(C.tab hT).isCodeTable, rfl, #[], more, rfl, grown⟩)
        · exact .inl (key b o h1 e)
      · by_cases h1 : b = Pw
        · rw [h1]
          exact ⟨_, grown⟩
        · exact ⟨o, key b o h1 e⟩
/-- the end of a law's row -/
theorem walk_ofG {l : PySem.W.OpenLaw} {n k : Nat} {q : Program} {loose : List Str} {XP : (Str → Option Value) → Heap → Prop} {YP : World → Heap → Prop} {d : DefRec} {K : Params → PySem.W.Frag} {x : Str}
    (hn : l.most = some n) (hn2 : n ≤ sizeLine) (hdf : d.params.defaults = []) (hr : Room k callerA) (hY : ∀ (w : World) (h : Heap), YP w h → (K w.params).In h)
    (F : ∀ (w : World) (mg : Str → Option Value) (fa : Addr) (h : Heap), YP w h → (K w.params).In h → h.Ns mainGlobals mg → mg d.name = some (.ref fa) →
      ∃ (fd : FuncData) (cw Pw : Addr) (sp : Sp), h.get? Pw = some { cls := .none, data := .fields #[] } ∧ (K w.params).lookup Pw = none ∧ PySem.W.CodeHd h cw Pw ∧ (∀ (s : Shared) (u : Value), BindsTo s fd ⟨[u], []⟩ [(x, u)]) ∧
        (∀ (H : Hp) (a : Addr) (ns : List Int), ns.length ≤ n → H Pw = some (.tbl #[]) → SqL (K w.params) H a (ns.map V.int) → sp [.ref a] H (fun v _ => v = .bl true) fun _ _ _ => False) ∧
        ∀ base : Heap, (K w.params).In base → base.Ns mainGlobals mg → TabB base mg cw Pw → FnG l.prog w (K w.params) mg base CX0 k fa fd [x] sp) :
    PySem.W.WalkO q loose XP YP l.row.toRowW d [] (fun f vs => PySem.call f vs) := by
  refine Att.attach_callB hn hdf fun w s₀ s₁ mg mb fa o pm cd doc a vs ns G Y ho hd hcd hmg hobj hints hlen hbits hg => ?_
  have KX := hY w _ Y
  obtain ⟨fd, cw, Pw, sp, hT, nT, C, hb, hsp, hF⟩ := F w mg fa _ Y KX G.T.g hmg
  exact law_callG KX G.T.g G.T.b G.T.builtins G.T.nolimit hg hT nT C G.T.bmain hobj hints (Nat.le_trans hlen hn2) hr hF hb fun H hH hS => hsp H a ns hlen hH hS
end Grd

set_option Elab.async false
set_option linter.all false
set_option maxRecDepth 100000
set_option maxHeartbeats 4000000
namespace K20
open PySem PySem.Spec PyProof.Rows L2 Dat LamX NdefX Clo
def topS (i : Nat) : Stmt := PySem.Challenge.pw_parlourday_k20_beats_of_the_bench.main.body.getD i (.Pass ⟨0, 0, 0, 0⟩)
abbrev s_fitting_row : Stmt := topS 2
abbrev N_fitting_row : List Str := ["rule", "mood", "looks", "deeds", "index", "row"]
theorem sc_fitting_row : FnScope ["rule", "mood", "looks", "deeds", "index", "row"] ["rule", "mood", "looks", "deeds"] (defScope s_fitting_row) := ⟨rfl, rfl, rfl, by decide +kernel, rfl, by decide +kernel, by decide +kernel⟩
abbrev s_within : Stmt := topS 3
abbrev N_within : List Str := ["looks", "spans", "look", "low", "high"]
theorem sc_within : FnScope ["looks", "spans", "look", "low", "high"] ["looks", "spans"] (defScope s_within) := ⟨rfl, rfl, rfl, by decide +kernel, rfl, by decide +kernel, by decide +kernel⟩
abbrev s_come_in : Stmt := topS 4
abbrev N_come_in : List Str := ["setup", "line", "singles", "comers", "groups", "coming", "away", "size", "found"]
theorem sc_come_in : FnScope ["setup", "line", "singles", "comers", "groups", "coming", "away", "size", "found"] ["setup", "line", "singles", "comers"] (defScope s_come_in) := ⟨rfl, rfl, rfl, by decide +kernel, rfl, by decide +kernel, by decide +kernel⟩
abbrev s_bench_deeds : Stmt := topS 5
abbrev N_bench_deeds : List Str := ["line", "singles", "left", "deeds"]
theorem sc_bench_deeds : FnScope ["line", "singles", "left", "deeds"] ["line", "singles", "left"] (defScope s_bench_deeds) := ⟨rfl, rfl, rfl, by decide +kernel, rfl, by decide +kernel, by decide +kernel⟩
abbrev s_fill_bench : Stmt := topS 6
abbrev N_fill_bench : List Str := ["setup", "rule", "standing", "portions", "line", "singles", "mood", "left", "deeds", "used", "looks", "index", "deed", "size"]
theorem sc_fill_bench : FnScope ["setup", "rule", "standing", "portions", "line", "singles", "mood", "left", "deeds", "used", "looks", "index", "deed", "size"] ["setup", "rule", "standing", "portions"] (defScope s_fill_bench) := ⟨rfl, rfl, rfl, by decide +kernel, rfl, by decide +kernel, by decide +kernel⟩
abbrev s_bench_beat : Stmt := topS 7
abbrev N_bench_beat : List Str := ["setup", "rule", "standing", "comers", "portions", "line", "singles", "away", "after", "deeds", "empty", "used"]
theorem sc_bench_beat : FnScope ["setup", "rule", "standing", "comers", "portions", "line", "singles", "away", "after", "deeds", "empty", "used"] ["setup", "rule", "standing", "comers", "portions"] (defScope s_bench_beat) := ⟨rfl, rfl, rfl, by decide +kernel, rfl, by decide +kernel, by decide +kernel⟩
abbrev s_is_whole : Stmt := topS 15
abbrev N_is_whole : List Str := ["thing"]
theorem sc_is_whole : FnScope ["thing"] ["thing"] (defScope s_is_whole) := ⟨rfl, rfl, rfl, by decide +kernel, rfl, by decide +kernel, by decide +kernel⟩
abbrev s_is_whole_in : Stmt := topS 16
abbrev N_is_whole_in : List Str := ["thing", "low", "high"]
theorem sc_is_whole_in : FnScope ["thing", "low", "high"] ["thing", "low", "high"] (defScope s_is_whole_in) := ⟨rfl, rfl, rfl, by decide +kernel, rfl, by decide +kernel, by decide +kernel⟩
abbrev s_is_pair : Stmt := topS 17
abbrev N_is_pair : List Str := ["thing"]
theorem sc_is_pair : FnScope ["thing"] ["thing"] (defScope s_is_pair) := ⟨rfl, rfl, rfl, by decide +kernel, rfl, by decide +kernel, by decide +kernel⟩
abbrev s_fault_in : Stmt := topS 18
abbrev N_fault_in : List Str := ["thing", "fits", "most", "place", "entry"]
theorem sc_fault_in : FnScope ["thing", "fits", "most", "place", "entry"] ["thing", "fits", "most"] (defScope s_fault_in) := ⟨rfl, rfl, rfl, by decide +kernel, rfl, by decide +kernel, by decide +kernel⟩
abbrev s_is_setup : Stmt := topS 29
abbrev N_is_setup : List Str := ["thing", "seats", "sizes", "rooms", "comers", "kinds", "life", "prices", "price"]
theorem sc_is_setup : FnScope ["thing", "seats", "sizes", "rooms", "comers", "kinds", "life", "prices", "price"] ["thing"] (defScope s_is_setup) := ⟨rfl, rfl, rfl, by decide +kernel, rfl, by decide +kernel, by decide +kernel⟩
abbrev s_is_choice : Stmt := topS 30
abbrev N_is_choice : List Str := ["thing", "most", "part"]
theorem sc_is_choice : FnScope ["thing", "most", "part"] ["thing", "most"] (defScope s_is_choice) := ⟨rfl, rfl, rfl, by decide +kernel, rfl, by decide +kernel, by decide +kernel⟩
abbrev s_check_setup : Stmt := topS 31
abbrev N_check_setup : List Str := ["thing"]
theorem sc_check_setup : FnScope ["thing"] ["thing"] (defScope s_check_setup) := ⟨rfl, rfl, rfl, by decide +kernel, rfl, by decide +kernel, by decide +kernel⟩
abbrev s_is_comers : Stmt := topS 32
abbrev N_is_comers : List Str := ["setup", "thing", "size"]
theorem sc_is_comers : FnScope ["setup", "thing", "size"] ["setup", "thing"] (defScope s_is_comers) := ⟨rfl, rfl, rfl, by decide +kernel, rfl, by decide +kernel, by decide +kernel⟩
abbrev s_check_row : Stmt := topS 33
abbrev N_check_row : List Str := ["setup", "thing", "most", "fault"]
theorem sc_check_row : FnScope ["setup", "thing", "most", "fault"] ["setup", "thing", "most"] (defScope s_check_row) := ⟨rfl, rfl, rfl, by decide +kernel, rfl, by decide +kernel, by decide +kernel⟩
abbrev s_is_half : Stmt := topS 34
abbrev N_is_half : List Str := ["thing", "deeds", "row"]
theorem sc_is_half : FnScope ["thing", "deeds", "row"] ["thing", "deeds"] (defScope s_is_half) := ⟨rfl, rfl, rfl, by decide +kernel, rfl, by decide +kernel, by decide +kernel⟩
abbrev s_is_rule_row : Stmt := topS 35
abbrev N_is_rule_row : List Str := ["thing", "deeds", "part"]
theorem sc_is_rule_row : FnScope ["thing", "deeds", "part"] ["thing", "deeds"] (defScope s_is_rule_row) := ⟨rfl, rfl, rfl, by decide +kernel, rfl, by decide +kernel, by decide +kernel⟩
abbrev s_is_span : Stmt := topS 36
abbrev N_is_span : List Str := ["thing"]
theorem sc_is_span : FnScope ["thing"] ["thing"] (defScope s_is_span) := ⟨rfl, rfl, rfl, by decide +kernel, rfl, by decide +kernel, by decide +kernel⟩
abbrev s_is_seats : Stmt := topS 37
abbrev N_is_seats : List Str := ["thing"]
theorem sc_is_seats : FnScope ["thing"] ["thing"] (defScope s_is_seats) := ⟨rfl, rfl, rfl, by decide +kernel, rfl, by decide +kernel, by decide +kernel⟩
abbrev s_check_seats : Stmt := topS 38
abbrev N_check_seats : List Str := ["thing"]
theorem sc_check_seats : FnScope ["thing"] ["thing"] (defScope s_check_seats) := ⟨rfl, rfl, rfl, by decide +kernel, rfl, by decide +kernel, by decide +kernel⟩
abbrev s_is_deaf : Stmt := topS 39
abbrev N_is_deaf : List Str := ["rule", "row"]
theorem sc_is_deaf : FnScope ["rule", "row"] ["rule"] (defScope s_is_deaf) := ⟨rfl, rfl, rfl, by decide +kernel, rfl, by decide +kernel, by decide +kernel⟩
abbrev s_check_deaf : Stmt := topS 40
abbrev N_check_deaf : List Str := ["rule"]
theorem sc_check_deaf : FnScope ["rule"] ["rule"] (defScope s_check_deaf) := ⟨rfl, rfl, rfl, by decide +kernel, rfl, by decide +kernel, by decide +kernel⟩
abbrev s_seats_of : Stmt := topS 42
abbrev N_seats_of : List Str := ["setup", "seats", "row", "_", "told"]
theorem sc_seats_of : FnScope ["setup", "seats", "row", "_", "told"] ["setup", "seats", "row"] (defScope s_seats_of) := ⟨rfl, rfl, rfl, by decide +kernel, rfl, by decide +kernel, by decide +kernel⟩
abbrev s_seats_after : Stmt := topS 43
abbrev N_seats_after : List Str := ["setup", "seats", "row", "standing", "_"]
theorem sc_seats_after : FnScope ["setup", "seats", "row", "standing", "_"] ["setup", "seats", "row"] (defScope s_seats_after) := ⟨rfl, rfl, rfl, by decide +kernel, rfl, by decide +kernel, by decide +kernel⟩
abbrev s_run_bench : Stmt := topS 44
abbrev N_run_bench : List Str := ["setup", "seats", "row", "standing", "told", "comers", "word", "_"]
theorem sc_run_bench : FnScope ["setup", "seats", "row", "standing", "told", "comers", "word", "_"] ["setup", "seats", "row"] (defScope s_run_bench) := ⟨rfl, rfl, rfl, by decide +kernel, rfl, by decide +kernel, by decide +kernel⟩
abbrev s__law_deck : Stmt := topS 46
abbrev N__law_deck : List Str := ["_law_script", "_law_at", "_law_cell"]
theorem sc__law_deck : FnScope ["_law_script", "_law_at", "_law_cell"] ["_law_script", "_law_at"] (defScope s__law_deck) := ⟨rfl, rfl, rfl, by decide +kernel, rfl, by decide +kernel, by decide +kernel⟩
abbrev s__law_draw : Stmt := topS 47
abbrev N__law_draw : List Str := ["_law_deck_here", "_law_many", "_law_drawn", "_law_mixed"]
theorem sc__law_draw : FnScope ["_law_deck_here", "_law_many", "_law_drawn", "_law_mixed"] ["_law_deck_here", "_law_many"] (defScope s__law_draw) := ⟨rfl, rfl, rfl, by decide +kernel, rfl, by decide +kernel, by decide +kernel⟩
abbrev s__law_setup : Stmt := topS 48
abbrev N__law_setup : List Str := ["_law_deck_here", "_law_small", "_law_pews", "_law_sizes", "_law_rooms", "_law_comers_here", "_law_kinds", "_law_prices", "_law_k"]
theorem sc__law_setup : FnScope ["_law_deck_here", "_law_small", "_law_pews", "_law_sizes", "_law_rooms", "_law_comers_here", "_law_kinds", "_law_prices", "_law_k"] ["_law_deck_here", "_law_small"] (defScope s__law_setup) := ⟨rfl, rfl, rfl, by decide +kernel, rfl, by decide +kernel, by decide +kernel⟩
abbrev s__law_range : Stmt := topS 49
abbrev N__law_range : List Str := ["_law_deck_here", "_law_most", "_law_one", "_law_other"]
theorem sc__law_range : FnScope ["_law_deck_here", "_law_most", "_law_one", "_law_other"] ["_law_deck_here", "_law_most"] (defScope s__law_range) := ⟨rfl, rfl, rfl, by decide +kernel, rfl, by decide +kernel, by decide +kernel⟩
abbrev s__law_seats : Stmt := topS 50
abbrev N__law_seats : List Str := ["_law_deck_here", "_law_moods", "_law_deaf", "_law_found", "_law_turn", "_law_deed", "_law_ranges"]
theorem sc__law_seats : FnScope ["_law_deck_here", "_law_moods", "_law_deaf", "_law_found", "_law_turn", "_law_deed", "_law_ranges"] ["_law_deck_here", "_law_moods", "_law_deaf"] (defScope s__law_seats) := ⟨rfl, rfl, rfl, by decide +kernel, rfl, by decide +kernel, by decide +kernel⟩
abbrev s__law_row : Stmt := topS 51
abbrev N__law_row : List Str := ["_law_deck_here", "_law_shop", "_law_many", "_law_found", "_law_turn", "_law_groups"]
theorem sc__law_row : FnScope ["_law_deck_here", "_law_shop", "_law_many", "_law_found", "_law_turn", "_law_groups"] ["_law_deck_here", "_law_shop", "_law_many"] (defScope s__law_row) := ⟨rfl, rfl, rfl, by decide +kernel, rfl, by decide +kernel, by decide +kernel⟩
abbrev s__law_fits : Stmt := topS 53
abbrev N__law_fits : List Str := ["_law_run", "_law_numbers", "_law_waits", "_law_front", "_law_left", "_law_singles", "_law_k"]
theorem sc__law_fits : FnScope ["_law_run", "_law_numbers", "_law_waits", "_law_front", "_law_left", "_law_singles", "_law_k"] ["_law_run", "_law_numbers", "_law_waits"] (defScope s__law_fits) := ⟨rfl, rfl, rfl, by decide +kernel, rfl, by decide +kernel, by decide +kernel⟩
abbrev s__law_beat : Stmt := topS 54
abbrev N__law_beat : List Str := ["_law_shop", "_law_pews", "_law_standing", "_law_comers_here", "_law_portions", "_law_line", "_law_singles", "_law_mood", "_law_away", "_law_left", "_law_deeds", "_law_size", "_law_one", "_law_turn", "_law_numbers", "_law_some", "_law_run", "_law_empty"]
theorem sc__law_beat : FnScope ["_law_shop", "_law_pews", "_law_standing", "_law_comers_here", "_law_portions", "_law_line", "_law_singles", "_law_mood", "_law_away", "_law_left", "_law_deeds", "_law_size", "_law_one", "_law_turn", "_law_numbers", "_law_some", "_law_run", "_law_empty"] ["_law_shop", "_law_pews", "_law_standing", "_law_comers_here", "_law_portions"] (defScope s__law_beat) := ⟨rfl, rfl, rfl, by decide +kernel, rfl, by decide +kernel, by decide +kernel⟩
abbrev s__law_moved : Stmt := topS 56
abbrev N__law_moved : List Str := ["_law_pews", "_law_moods", "_law_run"]
theorem sc__law_moved : FnScope ["_law_pews", "_law_moods", "_law_run"] ["_law_pews", "_law_moods"] (defScope s__law_moved) := ⟨rfl, rfl, rfl, by decide +kernel, rfl, by decide +kernel, by decide +kernel⟩
abbrev s__law_right : Stmt := topS 57
abbrev N__law_right : List Str := ["_law_deck_here", "_law_shop", "_law_pews", "_law_run", "_law_kept", "_law_standing", "_law_due", "_law_standings", "_law_comers_here", "_law_told", "_law_found", "_law_many", "_law_never", "_law_moved_here", "_law_after"]
theorem sc__law_right : FnScope ["_law_deck_here", "_law_shop", "_law_pews", "_law_run", "_law_kept", "_law_standing", "_law_due", "_law_standings", "_law_comers_here", "_law_told", "_law_found", "_law_many", "_law_never", "_law_moved_here", "_law_after"] ["_law_deck_here"] (defScope s__law_right) := ⟨rfl, rfl, rfl, by decide +kernel, rfl, by decide +kernel, by decide +kernel⟩
abbrev s_law : Stmt := topS 58
abbrev N_law : List Str := ["_law_script", "_law_k"]
theorem sc_law : FnScope ["_law_script", "_law_k"] ["_law_script"] (defScope s_law) := ⟨rfl, rfl, rfl, by decide +kernel, rfl, by decide +kernel, by decide +kernel⟩
structure Top (K : PySem.W.Frag) (mg : Str → Option Value) where
  f_fitting_row : Addr
  d_fitting_row : FuncData
  D_fitting_row : DefAt K mg "fitting_row" s_fitting_row ["rule", "mood", "looks", "deeds"] [] f_fitting_row d_fitting_row
  f_within : Addr
  d_within : FuncData
  D_within : DefAt K mg "within" s_within ["looks", "spans"] [] f_within d_within
  f_come_in : Addr
  d_come_in : FuncData
  D_come_in : DefAt K mg "come_in" s_come_in ["setup", "line", "singles", "comers"] [] f_come_in d_come_in
  f_bench_deeds : Addr
  d_bench_deeds : FuncData
  D_bench_deeds : DefAt K mg "bench_deeds" s_bench_deeds ["line", "singles", "left"] [] f_bench_deeds d_bench_deeds
  f_fill_bench : Addr
  d_fill_bench : FuncData
  D_fill_bench : DefAt K mg "fill_bench" s_fill_bench ["setup", "rule", "standing", "portions"] [] f_fill_bench d_fill_bench
  f_bench_beat : Addr
  d_bench_beat : FuncData
  D_bench_beat : DefAt K mg "bench_beat" s_bench_beat ["setup", "rule", "standing", "comers", "portions"] [] f_bench_beat d_bench_beat
  f_is_whole : Addr
  d_is_whole : FuncData
  D_is_whole : DefAt K mg "is_whole" s_is_whole ["thing"] [] f_is_whole d_is_whole
  f_is_whole_in : Addr
  d_is_whole_in : FuncData
  D_is_whole_in : DefAt K mg "is_whole_in" s_is_whole_in ["thing", "low", "high"] [] f_is_whole_in d_is_whole_in
  f_is_pair : Addr
  d_is_pair : FuncData
  D_is_pair : DefAt K mg "is_pair" s_is_pair ["thing"] [] f_is_pair d_is_pair
  f_fault_in : Addr
  d_fault_in : FuncData
  D_fault_in : DefAt K mg "fault_in" s_fault_in ["thing", "fits", "most"] [] f_fault_in d_fault_in
  f_is_setup : Addr
  d_is_setup : FuncData
  D_is_setup : DefAt K mg "is_setup" s_is_setup ["thing"] [] f_is_setup d_is_setup
  f_is_choice : Addr
  d_is_choice : FuncData
  D_is_choice : DefAt K mg "is_choice" s_is_choice ["thing", "most"] [] f_is_choice d_is_choice
  f_check_setup : Addr
  d_check_setup : FuncData
  D_check_setup : DefAt K mg "check_setup" s_check_setup ["thing"] [] f_check_setup d_check_setup
  f_is_comers : Addr
  d_is_comers : FuncData
  D_is_comers : DefAt K mg "is_comers" s_is_comers ["setup", "thing"] [] f_is_comers d_is_comers
  f_check_row : Addr
  d_check_row : FuncData
  cw : Addr
  D_check_row : DefC K mg "check_row" s_check_row ["setup", "thing", "most"] [.int 200] f_check_row d_check_row cw
  f_is_half : Addr
  d_is_half : FuncData
  D_is_half : DefAt K mg "is_half" s_is_half ["thing", "deeds"] [] f_is_half d_is_half
  f_is_rule_row : Addr
  d_is_rule_row : FuncData
  D_is_rule_row : DefAt K mg "is_rule_row" s_is_rule_row ["thing", "deeds"] [] f_is_rule_row d_is_rule_row
  f_is_span : Addr
  d_is_span : FuncData
  D_is_span : DefAt K mg "is_span" s_is_span ["thing"] [] f_is_span d_is_span
  f_is_seats : Addr
  d_is_seats : FuncData
  D_is_seats : DefAt K mg "is_seats" s_is_seats ["thing"] [] f_is_seats d_is_seats
  f_check_seats : Addr
  d_check_seats : FuncData
  D_check_seats : DefAt K mg "check_seats" s_check_seats ["thing"] [] f_check_seats d_check_seats
  f_is_deaf : Addr
  d_is_deaf : FuncData
  D_is_deaf : DefAt K mg "is_deaf" s_is_deaf ["rule"] [] f_is_deaf d_is_deaf
  f_check_deaf : Addr
  d_check_deaf : FuncData
  D_check_deaf : DefAt K mg "check_deaf" s_check_deaf ["rule"] [] f_check_deaf d_check_deaf
  f_seats_of : Addr
  d_seats_of : FuncData
  D_seats_of : DefAt K mg "seats_of" s_seats_of ["setup", "seats", "row"] [] f_seats_of d_seats_of
  f_seats_after : Addr
  d_seats_after : FuncData
  D_seats_after : DefAt K mg "seats_after" s_seats_after ["setup", "seats", "row"] [] f_seats_after d_seats_after
  f_run_bench : Addr
  d_run_bench : FuncData
  D_run_bench : DefAt K mg "run_bench" s_run_bench ["setup", "seats", "row"] [] f_run_bench d_run_bench
  f__law_deck : Addr
  d__law_deck : FuncData
  D__law_deck : DefAt K mg "_law_deck" s__law_deck ["_law_script", "_law_at"] [] f__law_deck d__law_deck
  f__law_draw : Addr
  d__law_draw : FuncData
  D__law_draw : DefAt K mg "_law_draw" s__law_draw ["_law_deck_here", "_law_many"] [] f__law_draw d__law_draw
  f__law_setup : Addr
  d__law_setup : FuncData
  D__law_setup : DefAt K mg "_law_setup" s__law_setup ["_law_deck_here", "_law_small"] [] f__law_setup d__law_setup
  f__law_range : Addr
  d__law_range : FuncData
  D__law_range : DefAt K mg "_law_range" s__law_range ["_law_deck_here", "_law_most"] [] f__law_range d__law_range
  f__law_seats : Addr
  d__law_seats : FuncData
  D__law_seats : DefAt K mg "_law_seats" s__law_seats ["_law_deck_here", "_law_moods", "_law_deaf"] [] f__law_seats d__law_seats
  f__law_row : Addr
  d__law_row : FuncData
  D__law_row : DefAt K mg "_law_row" s__law_row ["_law_deck_here", "_law_shop", "_law_many"] [] f__law_row d__law_row
  f__law_fits : Addr
  d__law_fits : FuncData
  D__law_fits : DefAt K mg "_law_fits" s__law_fits ["_law_run", "_law_numbers", "_law_waits"] [] f__law_fits d__law_fits
  f__law_beat : Addr
  d__law_beat : FuncData
  D__law_beat : DefAt K mg "_law_beat" s__law_beat ["_law_shop", "_law_pews", "_law_standing", "_law_comers_here", "_law_portions"] [] f__law_beat d__law_beat
  f__law_moved : Addr
  d__law_moved : FuncData
  D__law_moved : DefAt K mg "_law_moved" s__law_moved ["_law_pews", "_law_moods"] [] f__law_moved d__law_moved
  f__law_right : Addr
  d__law_right : FuncData
  D__law_right : DefAt K mg "_law_right" s__law_right ["_law_deck_here"] [] f__law_right d__law_right
  b_len : mg "len" = none
  b_isinstance : mg "isinstance" = none
  b_abs : mg "abs" = none
  b_all : mg "all" = none
  b_max : mg "max" = none
  b_min : mg "min" = none
  b_sorted : mg "sorted" = none
  b_int : mg "int" = none
  b_bool : mg "bool" = none
  b_tuple : mg "tuple" = none
  b_list : mg "list" = none
  b_range : mg "range" = none
  b_enumerate : mg "enumerate" = none
  b_zip : mg "zip" = none
  b_set : mg "set" = none
  p_NOBODY : Addr
  c_NOBODY : mg "NOBODY" = some (.ref p_NOBODY)
  v_NOBODY : ∀ H, Dq K H (.ref p_NOBODY) (.tuple [.tuple [], .int 0, .int 0])
  t_MOST_SEATS : Tok
  c_MOST_SEATS : mg "MOST_SEATS" = some (.int 4 t_MOST_SEATS)
  t_MOST_PORTIONS : Tok
  c_MOST_PORTIONS : mg "MOST_PORTIONS" = some (.int 4 t_MOST_PORTIONS)
  t_MOST_LIFE : Tok
  c_MOST_LIFE : mg "MOST_LIFE" = some (.int 3 t_MOST_LIFE)
  t_MOST_PRICE : Tok
  c_MOST_PRICE : mg "MOST_PRICE" = some (.int 5 t_MOST_PRICE)
  t_MOST_RULE_ROWS : Tok
  c_MOST_RULE_ROWS : mg "MOST_RULE_ROWS" = some (.int 6 t_MOST_RULE_ROWS)
  t_LONGEST_ROW : Tok
  c_LONGEST_ROW : mg "LONGEST_ROW" = some (.int 200 t_LONGEST_ROW)
  p_SEAT_DEEDS : Addr
  c_SEAT_DEEDS : mg "SEAT_DEEDS" = some (.ref p_SEAT_DEEDS)
  v_SEAT_DEEDS : ∀ H, Dq K H (.ref p_SEAT_DEEDS) (.tuple [.str "group", .str "single", .str "go"])
  t_HEARD : Tok
  c_HEARD : mg "HEARD" = some (.int 4 t_HEARD)
  p_DEAF : Addr
  c_DEAF : mg "DEAF" = some (.ref p_DEAF)
  v_DEAF : ∀ H, Dq K H (.ref p_DEAF) (.tuple [.int 0, .int 9])
  KN_seats_of__row_seats_setup : KBn K d_seats_of ["setup", "seats", "row"] 0 ["row", "seats", "setup"] (fun _ ws => kwU [2, 1, 0] ws) (fun _ zs => kwV [2, 1, 0] zs)
  KN_seats_after__row_seats_setup : KBn K d_seats_after ["setup", "seats", "row"] 0 ["row", "seats", "setup"] (fun _ ws => kwU [2, 1, 0] ws) (fun _ zs => kwV [2, 1, 0] zs)
end K20

set_option Elab.async false
set_option linter.all false
set_option maxRecDepth 100000
set_option maxHeartbeats 1000000
namespace K20
open PySem PySem.Spec PyProof.Rows L2 Dat
local macro_rules | `(tactic| trivial) => `(tactic| (first
  | (with_reducible refine s_seq ?_)
  | (with_reducible refine s_asg ?_)
  | (with_reducible refine s_ret ?_)
  | (with_reducible refine s_drop ?_)
  | (with_reducible refine s_next ?_)
  | (with_reducible refine s_retN ?_)
  | (with_reducible refine s_brk ?_)
  | (with_reducible refine s_cont ?_)
  | (with_reducible refine s_if ?_)
  | (with_reducible refine e_int ?_)
  | (with_reducible refine e_str ?_)
  | (with_reducible refine e_bl ?_)
  | (with_reducible refine e_non ?_)
  | (with_reducible refine e_ty ?_)
  | (with_reducible refine e_tupD ?_)
  | (with_reducible refine e_lstD ?_)
  | (with_reducible refine e_op ?_)
  | (with_reducible refine e_un ?_)
  | (with_reducible refine e_then ?_)
  | (with_reducible refine e_cb ?_)
  | (with_reducible refine e_call ?_)
  | (with_reducible refine e_if ?_)
  | (with_reducible refine e_chain ?_)
  | (with_reducible refine e_andV ?_)
  | (with_reducible refine e_orV ?_)
  | (with_reducible refine e_notV ?_)
  | (with_reducible refine a_cons ?_)
  | (with_reducible refine a_nil ?_)
  | (with_reducible refine t_test ?_)
  | (with_reducible refine t_B ?_)
  | (with_reducible refine t_not ?_)
  | (with_reducible refine t_and ?_)
  | (with_reducible refine t_or ?_)
  | (with_reducible refine r_I0i ?_)
  | (with_reducible refine r_I0b ?_)
  | (with_reducible refine r_neg ?_)
  | (with_reducible refine r_isN ?_)
  | (with_reducible refine r_notN ?_)
  | (with_reducible refine c_lenT ?_)
  | (with_reducible refine c_lenL ?_)
  | (with_reducible refine c_intI ?_)
  | (with_reducible refine c_intB ?_)
  | (with_reducible refine c_max2 ?_)
  | (with_reducible refine c_min2 ?_)
  | (with_reducible refine c_abs ?_)
  | (with_reducible refine r_tupL ?_)
  | (with_reducible refine r_tupT ?_)
  | (with_reducible refine c_allM ?_)
  | ((with_reducible apply e_var); (exact rfl))
  | ((with_reducible refine r_eq ?_ ?_); (exact rfl))
  | ((with_reducible refine r_ne ?_ ?_); (exact rfl))
  | (with_reducible refine c_isi kit_int ?_)
  | (with_reducible refine c_isi kit_bool ?_)
  | (with_reducible refine c_isi kit_tuple ?_)
  | (with_reducible refine c_isi kit_list ?_)
  | (with_reducible refine c_isi kit_str ?_)
  | ((with_reducible apply r_ixT); (exact rfl))
  | ((with_reducible apply dats_pack); (iterate 40 (first | exact Dats.nil | apply Dats.cons | skip)); (exact rfl))
  | (with_reducible refine s_asgG ?_) | (with_reducible refine g_name ?_) | ((with_reducible refine g_tup ?_ ?_); (exact rfl)) | (refine gs_nil ?_) | (refine gs_cons ?_) | (with_reducible refine ⟨rfl, ?_⟩)
  | (refine ⟨_, rfl, ?_⟩) | (refine ⟨_, _, rfl, ?_⟩) | (refine ⟨_, _, _, rfl, ?_⟩) | (with_reducible refine ⟨fun _ => ?_, fun _ => ?_⟩) | fail))
/-! ### what the program judges -/
def isWh : PyData → Bool
  | .int _ => true
  | _ => false
def inD (lo hi : Int) : PyData → Bool
  | .int i => decide (lo ≤ i) && decide (i ≤ hi)
  | _ => false
def pairD : PyData → Bool
  | .tuple ds => decide (ds.length = 2)
  | _ => false
def lt2 : List PyData → Bool
  | [.int a, .int b] => decide (a < b)
  | _ => false
def choiceD (m : Int) : PyData → Bool
  | .tuple ds => (decide (1 ≤ ds.length) && decide (ds.length ≤ 2)) && (ds.all (inD 1 m) && (decide (ds.length = 1) || lt2 ds))
  | _ => false
section
variable {P : Program} {w : World} {K : PySem.W.Frag} [Tb K] {mg : Str → Option Value} {base : Heap}
theorem ok_is_whole (T : Top K mg) : FnOk P w K mg base CX0 1 T.f_is_whole T.d_is_whole ["thing"] (spA K (spB isWh)) := by
  refine fnA_ok T.D_is_whole.F sc_is_whole (fun as Ω P ⟨d, e, _⟩ => by subst e; rfl) (fun cdv A outer s H E hr => ?_)
  refine ⟨_, (pss_one (ps_ret (pe_and (pe_callB (Dat.isiQ (K := K) rfl) rfl T.b_isinstance bt_isinstance (pa_cons (pv 0) (pa_cons (pe_bltn (v := .ty "int") rfl T.b_int bt_int rfl) pa_nil))) (pe_one (pe_not (pe_callB (Dat.isiQ (K := K) rfl) rfl T.b_isinstance bt_isinstance (pa_cons (pv 0) (pa_cons (pe_bltn (v := .ty "bool") rfl T.b_bool bt_bool rfl) pa_nil)))))))), ?_⟩
  rintro as Ω P ⟨d, rfl, h⟩
  repeat' trivial
  all_goals (cases d <;> simp_all [isIntD, isBoolD, isWh])
abbrev spIn : ASp := fun as Ω P => ∃ d lo hi, as = [.dat d, .dat (.int lo), .dat (.int hi)] ∧ P (.dat (.bool (inD lo hi d))) Ω
theorem ok_is_whole_in (T : Top K mg) : FnOk P w K mg base CX0 2 T.f_is_whole_in T.d_is_whole_in ["thing", "low", "high"] (spA K spIn) := by
  have G_is_whole : FnOk P w K mg base CX0 1 T.f_is_whole T.d_is_whole ["thing"] (spA K (spB isWh)) := ok_is_whole T
  refine fnA_ok T.D_is_whole_in.F sc_is_whole_in (fun as Ω P ⟨d, lo, hi, e, _⟩ => by subst e; rfl) (fun cdv A outer s H E hr => ?_)
  refine ⟨_, (pss_one (ps_ret (pe_and (pe_call G_is_whole (hr.mono (by omega)) rfl T.D_is_whole.g T.D_is_whole.F.kp T.D_is_whole.b .nil pass0 (pa_cons (pv 0) pa_nil)) (pe_one (pe_chain op_le op_le (pv 1) (pv 0) (pv 2)))))), ?_⟩
  rintro as Ω P ⟨d, lo, hi, rfl, h⟩
  refine s_ret (e_andV (e_call (a_cons (e_var rfl (a_nil ⟨d, rfl, _, rfl, fun hw => ?_, fun hw => ?_⟩)))))
  · cases d <;> try (cases hw; done)
    repeat' trivial
    all_goals simp_all [inD]
  · cases d <;> simp_all [isWh, inD]
theorem ok_is_pair (T : Top K mg) : FnOk P w K mg base CX0 1 T.f_is_pair T.d_is_pair ["thing"] (spA K (spB pairD)) := by
  refine fnA_ok T.D_is_pair.F sc_is_pair (fun as Ω P ⟨d, e, _⟩ => by subst e; rfl) (fun cdv A outer s H E hr => ?_)
  refine ⟨_, (pss_one (ps_ret (pe_and (pe_callB (Dat.isiQ (K := K) rfl) rfl T.b_isinstance bt_isinstance (pa_cons (pv 0) (pa_cons (pe_bltn (v := .ty "tuple") rfl T.b_tuple bt_tuple rfl) pa_nil))) (pe_one (pe_cmpR op_eq (pe_callB (Dat.lenQ (K := K) rfl) rfl T.b_len bt_len (pa_cons (pv 0) pa_nil)) pe_int (nomark _)))))), ?_⟩
  rintro as Ω P ⟨d, rfl, h⟩
  refine s_ret (e_andV (e_cb (a_cons (e_var rfl (a_cons (e_ty (a_nil (c_isi kit_tuple ⟨_, rfl, fun hw => ?_, fun hw => ?_⟩))))))))
  · cases d <;> try (cases hw; done)
    repeat' trivial
    refine cast (congrArg (fun b => P (Av.dat (.bool b)) Ω) ?_) h
    simp only [pairD, eqD]
    rw [decide_eq_decide]
    omega
  · cases d <;> simp_all [isTupD, pairD]
abbrev spCh : ASp := fun as Ω P => ∃ d m, as = [.dat d, .dat (.int m)] ∧ P (.dat (.bool (choiceD m d))) Ω
theorem all_in {lo hi : Int} : ∀ {ds : List PyData}, ds.all (inD lo hi) = true → ∃ ns : List Int, ds = ns.map PyData.int
  | [], _ => ⟨[], rfl⟩
  | d :: r, h => by
    rw [List.all_cons, Bool.and_eq_true] at h
    obtain ⟨ns, rfl⟩ := all_in h.2
    cases d <;> first | exact ⟨_ :: ns, rfl⟩ | (cases h.1)
theorem tup_or (d : PyData) : (∃ ds, d = .tuple ds) ∨ isTupD d = false := by
  cases d <;> first | exact .inl ⟨_, rfl⟩ | exact .inr rfl
theorem ok_is_choice (T : Top K mg) : FnOk P w K mg base CX0 3 T.f_is_choice T.d_is_choice ["thing", "most"] (spA K spCh) := by
  have G_is_whole_in : FnOk P w K mg base CX0 2 T.f_is_whole_in T.d_is_whole_in ["thing", "low", "high"] (spA K spIn) := ok_is_whole_in T
  refine fnA_ok T.D_is_choice.F sc_is_choice (fun as Ω P ⟨d, m, e, _⟩ => by subst e; rfl) (fun cdv A outer s H E hr => ?_)
  refine ⟨_, (pss_cons (ps_if (pt_not (PW.pt (pw_and (pt_val (pe_callB (Dat.isiQ (K := K) rfl) rfl T.b_isinstance bt_isinstance (pa_cons (pv 0) (pa_cons (pe_bltn (v := .ty "tuple") rfl T.b_tuple bt_tuple rfl) pa_nil)))) (pw_and1 (pt_chain op_le op_le pe_int (pe_callB (Dat.lenQ (K := K) rfl) rfl T.b_len bt_len (pa_cons (pv 0) pa_nil)) pe_int)))))
      (pss_one (ps_ret pe_bl))
      pss_nil)
    (pss_one (ps_ret (pe_and (pe_callB (Dat.allQ (K := K) rfl rfl) rfl T.b_all bt_all (pa_cons (pe_lc (own := [("part", 2)]) (g := (gName 2)) (tt := tYes) rfl sc_is_choice.nd (Dat.piT (K := K) rfl (pv 0)) (blkOk_by (N := N_is_choice) (sc := defScope s_is_choice) (by decide +kernel)) (fun _ _ _ _ _ => (pg_name (i := 2) sc_is_choice.nd rfl (Or.inl rfl))) (fun _ _ _ _ _ => pts_nil) (fun _ _ _ _ _ => (pe_call G_is_whole_in (hr.mono (by omega)) rfl T.D_is_whole_in.g T.D_is_whole_in.F.kp T.D_is_whole_in.b .nil pass0 (pa_cons (pv 2) (pa_cons pe_int (pa_cons (pv 1) pa_nil)))))) pa_nil)) (pe_one (pe_or (pe_cmpR op_eq (pe_callB (Dat.lenQ (K := K) rfl) rfl T.b_len bt_len (pa_cons (pv 0) pa_nil)) pe_int (nomark _)) (pe_one (pe_cmpR op_lt (pe_ix (Dat.ixT (K := K) rfl) (pv 0) pe_int (fun _ _ => rfl)) (pe_ix (Dat.ixT (K := K) rfl) (pv 0) pe_int (fun _ _ => rfl)) (nomark _))))))))), ?_⟩
  rintro as Ω P ⟨d, m, rfl, h⟩
  rcases tup_or d with ⟨ds, rfl⟩ | hn
  · have bad : ¬ (1 ≤ ds.length ∧ ds.length ≤ 2) → P (.dat (.bool false)) Ω := fun hl => by
      have : choiceD m (.tuple ds) = false := by
        simp only [choiceD]
        by_cases h1 : 1 ≤ ds.length
        · have h2 : ¬ ds.length ≤ 2 := fun z => hl ⟨h1, z⟩
          simp [h2]
        · simp [h1]
      rw [this] at h
      exact h
    repeat' trivial
    · exact bad (by simp_all; omega)
    · have hl : 1 ≤ ds.length ∧ ds.length ≤ 2 := by simp_all; omega
      refine e_lcM ds .dat (fun d => .bool (inD 1 m d)) (gn_name (by decide)) (by omega) ?_
      refine i_tup (e_var rfl ⟨_, rfl, rfl, fun x Ω' _ _ => g_name ⟨rfl, ?_⟩, ?_⟩)
      · repeat' trivial
      · refine a_nil (c_allM ⟨_, rfl, fun ha => ?_, fun ha => ?_⟩)
        · obtain ⟨ns, rfl⟩ := all_in ha
          match ns, hl with
          | [a], _ =>
            repeat' trivial
            all_goals simp_all [choiceD, lt2, eqD, inD]
          | [a, b], _ =>
            repeat' trivial
            all_goals simp_all [choiceD, lt2, eqD, inD]
          | _ :: _ :: _ :: _, hl => exact absurd hl.2 (by simp)
        · have : choiceD m (.tuple ds) = false := by simp only [choiceD, ha, Bool.false_and, Bool.and_false]
          rw [this] at h
          exact h
    · exact bad (by simp_all; omega)
  · repeat' trivial
    all_goals (cases d <;> simp_all [isTupD, choiceD])
/-! ### setups -/
def intOf : PyData → Int
  | .int i => i
  | _ => 0
def fstD : PyData → PyData
  | .tuple (a :: _) => a
  | _ => .none
def sndD : PyData → PyData
  | .tuple (_ :: b :: _) => b
  | _ => .none
def pricesD : PyData → Bool
  | .tuple ds => decide (ds.length = 4) && ds.all (inD 0 5)
  | _ => false
def setupD : PyData → Bool
  | .tuple [seats, sizes, rooms, comers, kinds, life, prices] =>
    inD 1 4 seats && (choiceD (intOf seats) sizes && (pairD rooms && (inD 1 2 (fstD rooms) && (inD 0 2 (sndD rooms) && (pairD comers && (inD 0 1 (fstD comers) && (inD 0 2 (sndD comers) && (choiceD 4 kinds && (inD 1 3 life && pricesD prices)))))))))
  | _ => false
theorem pair_or {d : PyData} (h : pairD d = true) : ∃ a b, d = .tuple [a, b] := by
  cases d <;> try (cases h; done)
  rename_i ds
  have h2 : ds.length = 2 := of_decide_eq_true h
  match ds, h2 with
  | [a, b], _ => exact ⟨a, b, rfl⟩
theorem inD_or {lo hi : Int} {d : PyData} (h : inD lo hi d = true) : ∃ i, d = .int i ∧ lo ≤ i ∧ i ≤ hi := by
  cases d <;> try (cases h; done)
  rename_i i
  simp only [inD, Bool.and_eq_true, decide_eq_true_eq] at h
  exact ⟨i, rfl, h.1, h.2⟩
theorem pair_or' (d : PyData) : (∃ a b, d = .tuple [a, b]) ∨ pairD d = false := by
  cases h : pairD d
  · exact .inr rfl
  · exact .inl (pair_or h)
theorem in_or (lo hi : Int) (d : PyData) : (∃ i, d = .int i ∧ lo ≤ i ∧ i ≤ hi) ∨ inD lo hi d = false := by
  cases h : inD lo hi d
  · exact .inr rfl
  · exact .inl (inD_or h)
theorem ok_is_setup (T : Top K mg) : FnOk P w K mg base CX0 4 T.f_is_setup T.d_is_setup ["thing"] (spA K (spB setupD)) := by
  have G_is_whole_in : FnOk P w K mg base CX0 2 T.f_is_whole_in T.d_is_whole_in ["thing", "low", "high"] (spA K spIn) := ok_is_whole_in T
  have G_is_choice : FnOk P w K mg base CX0 3 T.f_is_choice T.d_is_choice ["thing", "most"] (spA K spCh) := ok_is_choice T
  have G_is_pair : FnOk P w K mg base CX0 1 T.f_is_pair T.d_is_pair ["thing"] (spA K (spB pairD)) := ok_is_pair T
  refine fnA_ok T.D_is_setup.F sc_is_setup (fun as Ω P ⟨d, e, _⟩ => by subst e; rfl) (fun cdv A outer s H E hr => ?_)
  refine ⟨_, (pss_cons (ps_if (pt_not (PW.pt (pw_and (pt_val (pe_callB (Dat.isiQ (K := K) rfl) rfl T.b_isinstance bt_isinstance (pa_cons (pv 0) (pa_cons (pe_bltn (v := .ty "tuple") rfl T.b_tuple bt_tuple rfl) pa_nil)))) (pw_and1 (pt_cmpR op_eq (pe_callB (Dat.lenQ (K := K) rfl) rfl T.b_len bt_len (pa_cons (pv 0) pa_nil)) pe_int (nomark _))))))
      (pss_one (ps_ret pe_bl))
      pss_nil)
    (pss_cons (ps_asg (pv 0) (Dat.pgT (K := K) (n := 7) rfl rfl (pgs_cons (pg_name (i := 1) sc_is_setup.nd rfl (.inl rfl)) (pgs_cons (pg_name (i := 2) sc_is_setup.nd rfl (.inl rfl)) (pgs_cons (pg_name (i := 3) sc_is_setup.nd rfl (.inl rfl)) (pgs_cons (pg_name (i := 4) sc_is_setup.nd rfl (.inl rfl)) (pgs_cons (pg_name (i := 5) sc_is_setup.nd rfl (.inl rfl)) (pgs_cons (pg_name (i := 6) sc_is_setup.nd rfl (.inl rfl)) (pgs_cons (pg_name (i := 7) sc_is_setup.nd rfl (.inl rfl)) pgs_nil)))))))))
    (pss_one (ps_ret (pe_and (pe_call G_is_whole_in (hr.mono (by omega)) rfl T.D_is_whole_in.g T.D_is_whole_in.F.kp T.D_is_whole_in.b .nil pass0 (pa_cons (pv 1) (pa_cons pe_int (pa_cons (pe_glob (v := .int 4) rfl T.c_MOST_SEATS ⟨_, rfl⟩) pa_nil)))) (pe_and (pe_call G_is_choice (hr.mono (by omega)) rfl T.D_is_choice.g T.D_is_choice.F.kp T.D_is_choice.b .nil pass0 (pa_cons (pv 2) (pa_cons (pv 1) pa_nil))) (pe_and (pe_call G_is_pair (hr.mono (by omega)) rfl T.D_is_pair.g T.D_is_pair.F.kp T.D_is_pair.b .nil pass0 (pa_cons (pv 3) pa_nil)) (pe_and (pe_call G_is_whole_in (hr.mono (by omega)) rfl T.D_is_whole_in.g T.D_is_whole_in.F.kp T.D_is_whole_in.b .nil pass0 (pa_cons (pe_ix (Dat.ixT (K := K) rfl) (pv 3) pe_int (fun _ _ => rfl)) (pa_cons pe_int (pa_cons pe_int pa_nil)))) (pe_and (pe_call G_is_whole_in (hr.mono (by omega)) rfl T.D_is_whole_in.g T.D_is_whole_in.F.kp T.D_is_whole_in.b .nil pass0 (pa_cons (pe_ix (Dat.ixT (K := K) rfl) (pv 3) pe_int (fun _ _ => rfl)) (pa_cons pe_int (pa_cons pe_int pa_nil)))) (pe_and (pe_call G_is_pair (hr.mono (by omega)) rfl T.D_is_pair.g T.D_is_pair.F.kp T.D_is_pair.b .nil pass0 (pa_cons (pv 4) pa_nil)) (pe_and (pe_call G_is_whole_in (hr.mono (by omega)) rfl T.D_is_whole_in.g T.D_is_whole_in.F.kp T.D_is_whole_in.b .nil pass0 (pa_cons (pe_ix (Dat.ixT (K := K) rfl) (pv 4) pe_int (fun _ _ => rfl)) (pa_cons pe_int (pa_cons pe_int pa_nil)))) (pe_and (pe_call G_is_whole_in (hr.mono (by omega)) rfl T.D_is_whole_in.g T.D_is_whole_in.F.kp T.D_is_whole_in.b .nil pass0 (pa_cons (pe_ix (Dat.ixT (K := K) rfl) (pv 4) pe_int (fun _ _ => rfl)) (pa_cons pe_int (pa_cons pe_int pa_nil)))) (pe_and (pe_call G_is_choice (hr.mono (by omega)) rfl T.D_is_choice.g T.D_is_choice.F.kp T.D_is_choice.b .nil pass0 (pa_cons (pv 5) (pa_cons (pe_glob (v := .int 4) rfl T.c_MOST_PORTIONS ⟨_, rfl⟩) pa_nil))) (pe_and (pe_call G_is_whole_in (hr.mono (by omega)) rfl T.D_is_whole_in.g T.D_is_whole_in.F.kp T.D_is_whole_in.b .nil pass0 (pa_cons (pv 6) (pa_cons pe_int (pa_cons (pe_glob (v := .int 3) rfl T.c_MOST_LIFE ⟨_, rfl⟩) pa_nil)))) (pe_and (pe_callB (Dat.isiQ (K := K) rfl) rfl T.b_isinstance bt_isinstance (pa_cons (pv 7) (pa_cons (pe_bltn (v := .ty "tuple") rfl T.b_tuple bt_tuple rfl) pa_nil))) (pe_and (pe_cmpR op_eq (pe_callB (Dat.lenQ (K := K) rfl) rfl T.b_len bt_len (pa_cons (pv 7) pa_nil)) pe_int (nomark _)) (pe_one (pe_callB (Dat.allQ (K := K) rfl rfl) rfl T.b_all bt_all (pa_cons (pe_lc (own := [("price", 8)]) (g := (gName 8)) (tt := tYes) rfl sc_is_setup.nd (Dat.piT (K := K) rfl (pv 7)) (blkOk_by (N := N_is_setup) (sc := defScope s_is_setup) (by decide +kernel)) (fun _ _ _ _ _ => (pg_name (i := 8) sc_is_setup.nd rfl (Or.inl rfl))) (fun _ _ _ _ _ => pts_nil) (fun _ _ _ _ _ => (pe_call G_is_whole_in (hr.mono (by omega)) rfl T.D_is_whole_in.g T.D_is_whole_in.F.kp T.D_is_whole_in.b .nil pass0 (pa_cons (pv 8) (pa_cons pe_int (pa_cons (pe_glob (v := .int 5) rfl T.c_MOST_PRICE ⟨_, rfl⟩) pa_nil)))))) pa_nil))))))))))))))))))), ?_⟩
  rintro as Ω P ⟨d, rfl, h⟩
  rcases tup_or d with ⟨ds, rfl⟩ | hn
  · by_cases hl : ds.length = 7
    · match ds, hl with
      | [d1, d2, d3, d4, d5, d6, d7], _ =>
        refine s_seq (s_ifB (b := false) ?_ (fun z => by cases z) fun _ => s_next (s_seq ?_))
        · repeat' trivial
          all_goals first | (refine ⟨?_, rfl⟩; rfl) | (simp_all [isTupD]; done)
        refine s_asgG (e_var rfl (g_tup rfl ?_))
        repeat (refine gs_cons (g_name ⟨rfl, ?_⟩))
        refine gs_nil (s_retB (b := setupD (.tuple [d1, d2, d3, d4, d5, d6, d7])) ?_ h)
        refine e_andB ?_ fun h1 => ?_
        · repeat' trivial
        obtain ⟨i, rfl, hi⟩ := inD_or h1
        refine e_andB ?_ fun h2 => e_andB ?_ fun h3 => ?_
        · repeat' trivial
        · repeat' trivial
        obtain ⟨a, b, rfl⟩ := pair_or h3
        refine e_andB ?_ fun h4 => e_andB ?_ fun h5 => e_andB ?_ fun h6 => ?_
        · repeat' trivial
        · repeat' trivial
        · repeat' trivial
        obtain ⟨a', b', rfl⟩ := pair_or h6
        refine e_andB ?_ fun h7 => e_andB ?_ fun h8 => e_andB ?_ fun h9 => e_andB ?_ fun h10 => ?_
        · repeat' trivial
        · repeat' trivial
        · repeat' trivial
        · repeat' trivial
        rcases tup_or d7 with ⟨ds7, rfl⟩ | h7
        · refine e_andB (b1 := true) ?_ fun _ => e_andB (b1 := decide (ds7.length = 4)) ?_ fun hl => ?_
          · repeat' trivial
          · repeat' trivial
            refine ⟨?_, rfl⟩
            simp only [eqD]
            congr 2
            rw [decide_eq_decide]
            omega
          · have hl4 : ds7.length = 4 := of_decide_eq_true hl
            refine e_cb (a_cons (e_lcM ds7 .dat (fun d => .bool (inD 0 5 d)) (gn_name (by decide)) (by omega) ?_))
            refine i_tup (e_var rfl ⟨_, rfl, rfl, fun x Ω' _ _ => g_name ⟨rfl, ?_⟩, ?_⟩)
            · repeat' trivial
            · exact a_nil (c_allM ⟨rfl, rfl⟩)
        · have e7 : pricesD d7 = false := by
            cases d7 <;> first | rfl | cases h7
          show EW K _ _ Ω (IsB (pricesD d7) Ω)
          rw [e7]
          repeat' trivial
          exact absurd h7 (by simp_all)
    · have : setupD (.tuple ds) = false := by
        unfold setupD
        split
        · next e => rw [PyData.tuple.inj e] at hl; exact absurd rfl hl
        · rfl
      rw [this] at h
      repeat' trivial
      all_goals (simp_all [eqD]; try omega)
  · repeat' trivial
    all_goals (cases d <;> simp_all [isTupD, setupD])
end
end K20

set_option Elab.async false
set_option linter.all false
set_option maxRecDepth 100000
set_option maxHeartbeats 1000000
namespace K20
open PySem PySem.Spec PyProof.Rows L2 Dat
local macro_rules | `(tactic| trivial) => `(tactic| (first
  | (with_reducible refine s_seq ?_)
  | (with_reducible refine s_asg ?_)
  | (with_reducible refine s_ret ?_)
  | (with_reducible refine s_drop ?_)
  | (with_reducible refine s_next ?_)
  | (with_reducible refine s_retN ?_)
  | (with_reducible refine s_brk ?_)
  | (with_reducible refine s_cont ?_)
  | (with_reducible refine s_if ?_)
  | (with_reducible refine e_int ?_)
  | (with_reducible refine e_str ?_)
  | (with_reducible refine e_bl ?_)
  | (with_reducible refine e_non ?_)
  | (with_reducible refine e_ty ?_)
  | (with_reducible refine e_tupD ?_)
  | (with_reducible refine e_lstD ?_)
  | (with_reducible refine e_op ?_)
  | (with_reducible refine e_un ?_)
  | (with_reducible refine e_then ?_)
  | (with_reducible refine e_cb ?_)
  | (with_reducible refine e_call ?_)
  | (with_reducible refine e_if ?_)
  | (with_reducible refine e_chain ?_)
  | (with_reducible refine e_andV ?_)
  | (with_reducible refine e_orV ?_)
  | (with_reducible refine e_notV ?_)
  | (with_reducible refine a_cons ?_)
  | (with_reducible refine a_nil ?_)
  | (with_reducible refine t_test ?_)
  | (with_reducible refine t_B ?_)
  | (with_reducible refine t_not ?_)
  | (with_reducible refine t_and ?_)
  | (with_reducible refine t_or ?_)
  | (with_reducible refine r_I0i ?_)
  | (with_reducible refine r_I0b ?_)
  | (with_reducible refine r_neg ?_)
  | (with_reducible refine r_isN ?_)
  | (with_reducible refine r_notN ?_)
  | (with_reducible refine c_lenT ?_)
  | (with_reducible refine c_lenL ?_)
  | (with_reducible refine c_intI ?_)
  | (with_reducible refine c_intB ?_)
  | (with_reducible refine c_max2 ?_)
  | (with_reducible refine c_min2 ?_)
  | (with_reducible refine c_abs ?_)
  | (with_reducible refine r_tupL ?_)
  | (with_reducible refine r_tupT ?_)
  | (with_reducible refine c_allM ?_)
  | ((with_reducible apply e_var); (exact rfl))
  | ((with_reducible refine r_eq ?_ ?_); (exact rfl))
  | ((with_reducible refine r_ne ?_ ?_); (exact rfl))
  | (with_reducible refine c_isi kit_int ?_)
  | (with_reducible refine c_isi kit_bool ?_)
  | (with_reducible refine c_isi kit_tuple ?_)
  | (with_reducible refine c_isi kit_list ?_)
  | (with_reducible refine c_isi kit_str ?_)
  | ((with_reducible apply r_ixT); (exact rfl))
  | ((with_reducible apply dats_pack); (iterate 40 (first | exact Dats.nil | apply Dats.cons | skip)); (exact rfl))
  | (with_reducible refine s_asgG ?_) | (with_reducible refine g_name ?_) | ((with_reducible refine g_tup ?_ ?_); (exact rfl)) | (refine gs_nil ?_) | (refine gs_cons ?_) | (with_reducible refine ⟨rfl, ?_⟩)
  | (refine ⟨_, rfl, ?_⟩) | (refine ⟨_, _, rfl, ?_⟩) | (refine ⟨_, _, _, rfl, ?_⟩) | (with_reducible refine ⟨fun _ => ?_, fun _ => ?_⟩) | fail))
/-! ### seat rules -/
def spanD : PyData → Bool
  | .tuple [a, b] => inD 0 9 a && (inD 0 9 b && decide (intOf a ≤ intOf b))
  | _ => false
def rowD (ws : List Str) : PyData → Bool
  | .tuple [m, f, l, s, o, d, a] => (inD 0 2 m && ((ws.any fun w => isStr w d) && inD 0 2 a)) && [f, l, s, o].all spanD
  | _ => false
def halfD (ws : List Str) : PyData → Bool
  | .tuple ds => decide (ds.length ≤ 6) && ds.all (rowD ws)
  | _ => false
abbrev seatWs : List Str := ["group", "single", "go"]
def seatsD : PyData → Bool := halfD seatWs
section
variable {P : Program} {w : World} {K : PySem.W.Frag} [Tb K] {mg : Str → Option Value} {base : Heap}
theorem ok_is_span (T : Top K mg) : FnOk P w K mg base CX0 3 T.f_is_span T.d_is_span ["thing"] (spA K (spB spanD)) := by
  have G_is_whole_in : FnOk P w K mg base CX0 2 T.f_is_whole_in T.d_is_whole_in ["thing", "low", "high"] (spA K spIn) := ok_is_whole_in T
  have G_is_pair : FnOk P w K mg base CX0 1 T.f_is_pair T.d_is_pair ["thing"] (spA K (spB pairD)) := ok_is_pair T
  refine fnA_ok T.D_is_span.F sc_is_span (fun as Ω P ⟨d, e, _⟩ => by subst e; rfl) (fun cdv A outer s H E hr => ?_)
  refine ⟨_, (pss_one (ps_ret (pe_and (pe_call G_is_pair (hr.mono (by omega)) rfl T.D_is_pair.g T.D_is_pair.F.kp T.D_is_pair.b .nil pass0 (pa_cons (pv 0) pa_nil)) (pe_and (pe_call G_is_whole_in (hr.mono (by omega)) rfl T.D_is_whole_in.g T.D_is_whole_in.F.kp T.D_is_whole_in.b .nil pass0 (pa_cons (pe_ix (Dat.ixT (K := K) rfl) (pv 0) pe_int (fun _ _ => rfl)) (pa_cons pe_int (pa_cons pe_int pa_nil)))) (pe_and (pe_call G_is_whole_in (hr.mono (by omega)) rfl T.D_is_whole_in.g T.D_is_whole_in.F.kp T.D_is_whole_in.b .nil pass0 (pa_cons (pe_ix (Dat.ixT (K := K) rfl) (pv 0) pe_int (fun _ _ => rfl)) (pa_cons pe_int (pa_cons pe_int pa_nil)))) (pe_one (pe_cmpR op_le (pe_ix (Dat.ixT (K := K) rfl) (pv 0) pe_int (fun _ _ => rfl)) (pe_ix (Dat.ixT (K := K) rfl) (pv 0) pe_int (fun _ _ => rfl)) (nomark _)))))))), ?_⟩
  rintro as Ω P ⟨d, rfl, h⟩
  rcases pair_or' d with ⟨a, b, rfl⟩ | hn
  · refine s_retB (b := spanD (.tuple [a, b])) ?_ h
    refine e_andB (b1 := true) ?_ fun _ => e_andB ?_ fun h1 => e_andB ?_ fun h2 => ?_
    · repeat' trivial
    · repeat' trivial
    · repeat' trivial
    obtain ⟨i, rfl, _⟩ := inD_or h1
    obtain ⟨j, rfl, _⟩ := inD_or h2
    repeat' trivial
  · have e : spanD d = false := by
      cases d <;> try rfl
      rename_i ds
      match ds with
      | [] => rfl
      | [_] => rfl
      | [_, _] => exact absurd hn (by simp [pairD])
      | _ :: _ :: _ :: _ => rfl
    refine s_retB (b := spanD d) ?_ h
    rw [e]
    refine e_andV (e_call (a_cons (e_var rfl (a_nil ⟨d, rfl, _, rfl, fun hw => ?_, fun hw => ⟨rfl, rfl⟩⟩))))
    rw [hn] at hw
    cases hw
abbrev spRow : ASp := fun as Ω P => ∃ d ws, as = [.dat d, .dat (.tuple (List.map PyData.str ws))] ∧ P (.dat (.bool (rowD ws d))) Ω
theorem rowD_no {ws : List Str} {ds : List PyData} (h : ds.length ≠ 7) : rowD ws (.tuple ds) = false := by
  unfold rowD
  split
  · next e => rw [PyData.tuple.inj e] at h; exact absurd rfl h
  · rfl
theorem ok_is_rule_row (T : Top K mg) : FnOk P w K mg base CX0 4 T.f_is_rule_row T.d_is_rule_row ["thing", "deeds"] (spA K spRow) := by
  have G_is_whole_in : FnOk P w K mg base CX0 2 T.f_is_whole_in T.d_is_whole_in ["thing", "low", "high"] (spA K spIn) := ok_is_whole_in T
  have G_is_span : FnOk P w K mg base CX0 3 T.f_is_span T.d_is_span ["thing"] (spA K (spB spanD)) := ok_is_span T
  refine fnA_ok T.D_is_rule_row.F sc_is_rule_row (fun as Ω P ⟨d, ws, e, _⟩ => by subst e; rfl) (fun cdv A outer s H E hr => ?_)
  refine ⟨_, (pss_cons (ps_if (pt_not (PW.pt (pw_and (pt_val (pe_callB (Dat.isiQ (K := K) rfl) rfl T.b_isinstance bt_isinstance (pa_cons (pv 0) (pa_cons (pe_bltn (v := .ty "tuple") rfl T.b_tuple bt_tuple rfl) pa_nil)))) (pw_and1 (pt_cmpR op_eq (pe_callB (Dat.lenQ (K := K) rfl) rfl T.b_len bt_len (pa_cons (pv 0) pa_nil)) pe_int (nomark _))))))
      (pss_one (ps_ret pe_bl))
      pss_nil)
    (pss_cons (ps_if (pt_not (PW.pt (pw_and (pt_val (pe_call G_is_whole_in (hr.mono (by omega)) rfl T.D_is_whole_in.g T.D_is_whole_in.F.kp T.D_is_whole_in.b .nil pass0 (pa_cons (pe_ix (Dat.ixT (K := K) rfl) (pv 0) pe_int (fun _ _ => rfl)) (pa_cons pe_int (pa_cons pe_int pa_nil))))) (pw_and (pt_cmpR (Dat.inStrQ (K := K) rfl (hu64 hr)) (pe_ix (Dat.ixT (K := K) rfl) (pv 0) pe_int (fun _ _ => rfl)) (pv 1) rfl) (pw_and1 (pt_val (pe_call G_is_whole_in (hr.mono (by omega)) rfl T.D_is_whole_in.g T.D_is_whole_in.F.kp T.D_is_whole_in.b .nil pass0 (pa_cons (pe_ix (Dat.ixT (K := K) rfl) (pv 0) pe_int (fun _ _ => rfl)) (pa_cons pe_int (pa_cons pe_int pa_nil))))))))))
      (pss_one (ps_ret pe_bl))
      pss_nil)
    (pss_one (ps_ret (pe_callB (Dat.allQ (K := K) rfl rfl) rfl T.b_all bt_all (pa_cons (pe_lc (own := [("part", 2)]) (g := (gName 2)) (tt := tYes) rfl sc_is_rule_row.nd (Dat.piT (K := K) rfl (pe_slice (Dat.slT (K := K) rfl) (pv 0) (po_some pe_int) (po_some pe_int))) (blkOk_by (N := N_is_rule_row) (sc := defScope s_is_rule_row) (by decide +kernel)) (fun _ _ _ _ _ => (pg_name (i := 2) sc_is_rule_row.nd rfl (Or.inl rfl))) (fun _ _ _ _ _ => pts_nil) (fun _ _ _ _ _ => (pe_call G_is_span (hr.mono (by omega)) rfl T.D_is_span.g T.D_is_span.F.kp T.D_is_span.b .nil pass0 (pa_cons (pv 2) pa_nil)))) pa_nil)))))), ?_⟩
  rintro as Ω P ⟨d, ws, rfl, h⟩
  rcases tup_or d with ⟨ds, rfl⟩ | hn
  · by_cases hl : ds.length = 7
    · match ds, hl with
      | [d1, d2, d3, d4, d5, d6, d7], _ =>
        refine s_seq (s_ifB (b := false) ?_ (fun z => by cases z) fun _ => s_next ?_)
        · repeat' trivial
          all_goals first | (refine ⟨?_, rfl⟩; rfl) | (simp_all [isTupD]; done)
        refine s_seq (s_ifB (b := !(inD 0 2 d1 && ((ws.any fun w => isStr w d6) && inD 0 2 d7))) (t_notB (t_andB (t_ofB ?_) fun _ => t_andB (t_ofC ?_) fun _ => t_ofB ?_)) (fun z => ?_) fun z => s_next ?_)
        · repeat' trivial
        · refine e_op (e_op (e_var rfl (e_int (r_ixT rfl (e_var rfl (r_inStr ⟨rfl, rfl⟩))))))
        · repeat' trivial
        · have : rowD ws (.tuple [d1, d2, d3, d4, d5, d6, d7]) = false := by
            simp only [rowD]
            rw [Bool.not_eq_true'] at z
            rw [z, Bool.false_and]
          rw [this] at h
          exact s_ret (e_bl h)
        · refine s_ret (e_cb (a_cons (e_lcM [d2, d3, d4, d5] .dat (fun d => .bool (spanD d)) (gn_name (by decide)) (by simp) ?_)))
          refine i_tup (e_slT (e_var rfl ⟨_, rfl, o_some (e_int ⟨_, rfl, o_some (e_int ⟨_, rfl, ⟨_, rfl, rfl, fun x Ω' _ _ => g_name ⟨rfl, ?_⟩, ?_⟩⟩)⟩)⟩))
          · repeat' trivial
          · refine a_nil (c_allM ?_)
            have : rowD ws (.tuple [d1, d2, d3, d4, d5, d6, d7]) = [d2, d3, d4, d5].all spanD := by
              simp only [rowD]
              rw [Bool.not_eq_false'] at z
              rw [z, Bool.true_and]
            rw [← this]
            exact h
    · rw [rowD_no hl] at h
      repeat' trivial
      all_goals (simp_all [eqD]; try omega)
  · have e : rowD ws d = false := by cases d <;> first | rfl | cases hn
    rw [e] at h
    repeat' trivial
    all_goals (cases d <;> simp_all [isTupD])
abbrev spHalf : ASp := fun as Ω P => ∃ d ws, as = [.dat d, .dat (.tuple (List.map PyData.str ws))] ∧ P (.dat (.bool (halfD ws d))) Ω
theorem ok_is_half (T : Top K mg) : FnOk P w K mg base CX0 5 T.f_is_half T.d_is_half ["thing", "deeds"] (spA K spHalf) := by
  have G_is_rule_row : FnOk P w K mg base CX0 4 T.f_is_rule_row T.d_is_rule_row ["thing", "deeds"] (spA K spRow) := ok_is_rule_row T
  refine fnA_ok T.D_is_half.F sc_is_half (fun as Ω P ⟨d, ws, e, _⟩ => by subst e; rfl) (fun cdv A outer s H E hr => ?_)
  refine ⟨_, (pss_cons (ps_if (pt_not (PW.pt (pw_and (pt_val (pe_callB (Dat.isiQ (K := K) rfl) rfl T.b_isinstance bt_isinstance (pa_cons (pv 0) (pa_cons (pe_bltn (v := .ty "tuple") rfl T.b_tuple bt_tuple rfl) pa_nil)))) (pw_and1 (pt_cmpR op_le (pe_callB (Dat.lenQ (K := K) rfl) rfl T.b_len bt_len (pa_cons (pv 0) pa_nil)) (pe_glob (v := .int 6) rfl T.c_MOST_RULE_ROWS ⟨_, rfl⟩) (nomark _))))))
      (pss_one (ps_ret pe_bl))
      pss_nil)
    (pss_one (ps_ret (pe_callB (Dat.allQ (K := K) rfl rfl) rfl T.b_all bt_all (pa_cons (pe_lc (own := [("row", 2)]) (g := (gName 2)) (tt := tYes) rfl sc_is_half.nd (Dat.piT (K := K) rfl (pv 0)) (blkOk_by (N := N_is_half) (sc := defScope s_is_half) (by decide +kernel)) (fun _ _ _ _ _ => (pg_name (i := 2) sc_is_half.nd rfl (Or.inl rfl))) (fun _ _ _ _ _ => pts_nil) (fun _ _ _ _ _ => (pe_call G_is_rule_row (hr.mono (by omega)) rfl T.D_is_rule_row.g T.D_is_rule_row.F.kp T.D_is_rule_row.b .nil pass0 (pa_cons (pv 2) (pa_cons (pv 1) pa_nil))))) pa_nil))))), ?_⟩
  rintro as Ω P ⟨d, ws, rfl, h⟩
  rcases tup_or d with ⟨ds, rfl⟩ | hn
  · refine s_seq (s_ifB (b := !(true && decide (ds.length ≤ 6))) (t_notB (t_andB (t_ofB ?_) fun _ => t_ofC ?_)) (fun z => ?_) fun z => s_next ?_)
    · repeat' trivial
    · repeat' trivial
      refine ⟨?_, rfl⟩
      congr 2
      rw [decide_eq_decide]
      omega
    · have : halfD ws (.tuple ds) = false := by
        simp only [halfD]
        rw [Bool.true_and, Bool.not_eq_true'] at z
        rw [z, Bool.false_and]
      rw [this] at h
      exact s_ret (e_bl h)
    · rw [Bool.true_and, Bool.not_eq_false', decide_eq_true_eq] at z
      refine s_ret (e_cb (a_cons (e_lcM ds .dat (fun d => .bool (rowD ws d)) (gn_name (by decide)) (by omega) ?_)))
      refine i_tup (e_var rfl ⟨_, rfl, rfl, fun x Ω' _ _ => g_name ⟨rfl, ?_⟩, ?_⟩)
      · exact e_call (a_cons (e_var rfl (a_cons (e_var rfl (a_nil ⟨x, ws, rfl, rfl, rfl⟩)))))
      · refine a_nil (c_allM ?_)
        have : halfD ws (.tuple ds) = ds.all (rowD ws) := by
          simp only [halfD, decide_eq_true z, Bool.true_and]
        rw [← this]
        exact h
  · have e : halfD ws d = false := by cases d <;> first | rfl | cases hn
    rw [e] at h
    repeat' trivial
    all_goals (cases d <;> simp_all [isTupD])
theorem ok_is_seats (T : Top K mg) : FnOk P w K mg base CX0 6 T.f_is_seats T.d_is_seats ["thing"] (spA K (spB seatsD)) := by
  have G_is_half : FnOk P w K mg base CX0 5 T.f_is_half T.d_is_half ["thing", "deeds"] (spA K spHalf) := ok_is_half T
  refine fnA_ok T.D_is_seats.F sc_is_seats (fun as Ω P ⟨d, e, _⟩ => by subst e; rfl) (fun cdv A outer s H E hr => ?_)
  refine ⟨_, (pss_one (ps_ret (pe_call G_is_half (hr.mono (by omega)) rfl T.D_is_half.g T.D_is_half.F.kp T.D_is_half.b .nil pass0 (pa_cons (pv 0) (pa_cons (pe_glob (v := .ref T.p_SEAT_DEEDS) rfl T.c_SEAT_DEEDS rfl) pa_nil))))), ?_⟩
  rintro as Ω P ⟨d, rfl, h⟩
  exact s_ret (e_call (a_cons (e_var rfl (a_cons (e_K T.v_SEAT_DEEDS (a_nil ⟨d, seatWs, rfl, h⟩))))))
/-! ### comers -/
abbrev spChk : ASp := fun as Ω P => ∃ d, as = [.dat d] ∧ setupD d = true ∧ P (.dat .none) Ω
theorem ok_check_setup (T : Top K mg) : FnOk P w K mg base CX0 5 T.f_check_setup T.d_check_setup ["thing"] (spA K spChk) := by
  have G_is_setup : FnOk P w K mg base CX0 4 T.f_is_setup T.d_is_setup ["thing"] (spA K (spB setupD)) := ok_is_setup T
  refine fnA_ok T.D_check_setup.F sc_check_setup (fun as Ω P ⟨d, e, _⟩ => by subst e; rfl) (fun cdv A outer s H E hr => ?_)
  refine ⟨_, (pss_one (ps_if (pt_not (pt_val (pe_call G_is_setup (hr.mono (by omega)) rfl T.D_is_setup.g T.D_is_setup.F.kp T.D_is_setup.b .nil pass0 (pa_cons (pv 0) pa_nil))))
      (pss_one ps_dead)
      pss_nil)), ?_⟩
  rintro as Ω P ⟨d, rfl, hs, h⟩
  refine s_ifB (b := !setupD d) (t_notB (t_ofC ?_)) (fun z => ?_) fun _ => s_next h
  · repeat' trivial
  · rw [hs] at z
    cases z
end
end K20

set_option Elab.async false
set_option linter.all false
set_option maxRecDepth 100000
set_option maxHeartbeats 1000000
namespace K20
open PySem PySem.Spec PyProof.Rows L2 Dat
local macro_rules | `(tactic| trivial) => `(tactic| (first
  | (with_reducible refine s_seq ?_)
  | (with_reducible refine s_asg ?_)
  | (with_reducible refine s_ret ?_)
  | (with_reducible refine s_drop ?_)
  | (with_reducible refine s_next ?_)
  | (with_reducible refine s_retN ?_)
  | (with_reducible refine s_brk ?_)
  | (with_reducible refine s_cont ?_)
  | (with_reducible refine s_if ?_)
  | (with_reducible refine e_int ?_)
  | (with_reducible refine e_str ?_)
  | (with_reducible refine e_bl ?_)
  | (with_reducible refine e_non ?_)
  | (with_reducible refine e_ty ?_)
  | (with_reducible refine e_tupD ?_)
  | (with_reducible refine e_lstD ?_)
  | (with_reducible refine e_op ?_)
  | (with_reducible refine e_un ?_)
  | (with_reducible refine e_then ?_)
  | (with_reducible refine e_cb ?_)
  | (with_reducible refine e_call ?_)
  | (with_reducible refine e_if ?_)
  | (with_reducible refine e_chain ?_)
  | (with_reducible refine e_andV ?_)
  | (with_reducible refine e_orV ?_)
  | (with_reducible refine e_notV ?_)
  | (with_reducible refine a_cons ?_)
  | (with_reducible refine a_nil ?_)
  | (with_reducible refine t_test ?_)
  | (with_reducible refine t_B ?_)
  | (with_reducible refine t_not ?_)
  | (with_reducible refine t_and ?_)
  | (with_reducible refine t_or ?_)
  | (with_reducible refine r_I0i ?_)
  | (with_reducible refine r_I0b ?_)
  | (with_reducible refine r_neg ?_)
  | (with_reducible refine r_isN ?_)
  | (with_reducible refine r_notN ?_)
  | (with_reducible refine c_lenT ?_)
  | (with_reducible refine c_lenL ?_)
  | (with_reducible refine c_intI ?_)
  | (with_reducible refine c_intB ?_)
  | (with_reducible refine c_max2 ?_)
  | (with_reducible refine c_min2 ?_)
  | (with_reducible refine c_abs ?_)
  | (with_reducible refine r_tupL ?_)
  | (with_reducible refine r_tupT ?_)
  | (with_reducible refine c_allM ?_)
  | ((with_reducible apply e_var); (exact rfl))
  | ((with_reducible refine r_eq ?_ ?_); (exact rfl))
  | ((with_reducible refine r_ne ?_ ?_); (exact rfl))
  | (with_reducible refine c_isi kit_int ?_)
  | (with_reducible refine c_isi kit_bool ?_)
  | (with_reducible refine c_isi kit_tuple ?_)
  | (with_reducible refine c_isi kit_list ?_)
  | (with_reducible refine c_isi kit_str ?_)
  | ((with_reducible apply r_ixT); (exact rfl))
  | ((with_reducible apply dats_pack); (iterate 40 (first | exact Dats.nil | apply Dats.cons | skip)); (exact rfl))
  | (with_reducible refine s_asgG ?_) | (with_reducible refine g_name ?_) | ((with_reducible refine g_tup ?_ ?_); (exact rfl)) | (refine gs_nil ?_) | (refine gs_cons ?_) | (with_reducible refine ⟨rfl, ?_⟩)
  | (refine ⟨_, rfl, ?_⟩) | (refine ⟨_, _, rfl, ?_⟩) | (refine ⟨_, _, _, rfl, ?_⟩) | (with_reducible refine ⟨fun _ => ?_, fun _ => ?_⟩) | fail))
section
variable {P : Program} {w : World} {K : PySem.W.Frag} [Tb K] {mg : Str → Option Value} {base : Heap}
/-! ### the deck -/
abbrev deckL (a b c : Int) : List Av := [.dat (.int a), .dat (.int b), .dat (.int c)]
abbrev spDeck : ASp := fun as Ω P => ∃ (ns : List Int) (k : Nat), as = [.scr ns, .dat (.int k)] ∧ ∀ p a b c, Ω p = none → P (.ptr p) (put Ω p (deckL a b c))
theorem ok_deck (T : Top K mg) : FnOk P w K mg base CX0 1 T.f__law_deck T.d__law_deck ["_law_script", "_law_at"] (spA K spDeck) := by
  refine fnA_ok T.D__law_deck.F sc__law_deck (fun as Ω P ⟨ns, k, e, _⟩ => by subst e; rfl) (fun cdv A outer s H E hr => ?_)
  refine ⟨_, (pss_cons (ps_set (i := 2) sc__law_deck.nd rfl (.inl rfl) (pe_op op_add (pe_op op_mul pe_int (pv 1)) pe_int))
    (pss_cons (ps_if (pt_cmpR op_lt (pv 1) (pe_callB (Dat.lenQ (K := K) rfl) rfl T.b_len bt_len (pa_cons (pv 0) pa_nil)) (nomark _))
      (pss_one (ps_set (i := 2) sc__law_deck.nd rfl (.inl rfl) (pe_ix (Dat.ixL (K := K) rfl) (pv 0) (pv 1) (fun _ _ => rfl))))
      pss_nil)
    (pss_one (ps_ret (pe_lst (pa_cons (pe_callB (Dat.cl_max2 rfl) rfl T.b_max bt_max (pa_cons pe_int (pa_cons (pe_op op_sub (pv 2) (pe_op op_pow pe_int pe_int)) pa_nil))) (pa_cons (pe_op op_add (pe_op op_mul (pe_callB Dat.cl_abs rfl T.b_abs bt_abs (pa_cons (pv 2) pa_nil)) pe_int) (pe_callTy Dat.cl_int rfl T.b_int bt_int (pa_cons (pe_cmpR op_lt (pv 2) pe_int (nomark _)) pa_nil))) (pa_cons (pv 1) pa_nil)))))))), ?_⟩
  rintro as Ω P ⟨ns, k, rfl, h⟩
  refine s_seq (s_asg (e_op (e_op (e_int (e_var rfl (r_Ii (by exact .inl ⟨by decide, by decide⟩) (e_int (r_I0i ?_))))))))
  refine s_seqM (fun Γ' Ω' => ∃ cell : Int, Γ' = [some (.scr ns), some (.dat (.int k)), some (.dat (.int cell))] ∧ Ω' = Ω) ?_ ?_
  · refine s_if (t_test (e_op (e_var rfl (e_cb (a_cons (e_var rfl (a_nil (c_lenS (r_I0b ⟨_, rfl, fun hb => ?_, fun _ => s_next ⟨_, rfl, rfl⟩⟩)))))))))
    have hk : k < ns.length := by
      have := of_decide_eq_true hb
      omega
    exact s_asg (e_op (e_var rfl (e_var rfl (r_ixS (n := ns[k]) (atI_nat' (List.getElem?_eq_getElem hk)) ⟨_, rfl, rfl⟩))))
  rintro Γ' Ω' ⟨cell, rfl, rfl⟩
  refine s_ret (e_lstP (a_cons (e_cb (a_cons (e_int (a_cons (e_op (e_var rfl (e_op (e_int (e_int (r_Ii (by exact ⟨by decide, by decide, by decide⟩) (r_I0i (a_nil (c_max2 ?_)))))))))))))))
  refine a_cons (e_op (e_op (e_cb (a_cons (e_var rfl (a_nil (c_abs (e_int (r_Ii (by exact .inr ⟨by decide, by decide⟩) (e_cb (a_cons (e_op (e_var rfl (e_int (r_I0b (a_nil (c_intB (r_I0i ?_))))))))))))))))))
  exact a_cons (e_var rfl (a_nil ⟨by simp, fun p hp => h p _ _ _ hp⟩))
abbrev spDraw : ASp := fun as Ω P => ∃ (Ω0 : AH) (p : Addr) (m a b c : Int), as = [.ptr p, .dat (.int m)] ∧ Ω = put Ω0 p (deckL a b c) ∧ 1 ≤ m ∧ m ≤ 1000000000 ∧ ∀ v a' b' c', 0 ≤ v → v < m → P (.dat (.int v)) (put Ω0 p (deckL a' b' c'))
theorem ok_draw (T : Top K mg) : FnOk P w K mg base CX0 1 T.f__law_draw T.d__law_draw ["_law_deck_here", "_law_many"] (spA K spDraw) := by
  refine fnA_ok T.D__law_draw.F sc__law_draw (fun as Ω P ⟨Ω0, p, m, a, b, c, e, _⟩ => by subst e; rfl) (fun cdv A outer s H E hr => ?_)
  refine ⟨_, (pss_cons (ps_if (pt_cmpR op_gt (pe_ix (Dat.ixL (K := K) rfl) (pv 0) pe_int (fun _ _ => rfl)) pe_int (nomark _))
      (pss_cons (ps_set (i := 2) sc__law_draw.nd rfl (.inl rfl) (pe_op op_mod (pe_callTy Dat.cl_int rfl T.b_int bt_int (pa_cons (pe_ix (Dat.ixL (K := K) rfl) (pv 0) pe_int (fun _ _ => rfl)) pa_nil)) (pv 1)))
      (pss_cons (ps_asg (pe_op op_fdiv (pe_ix (Dat.ixL (K := K) rfl) (pv 0) pe_int (fun _ _ => rfl)) (pv 1)) (pg_sub (pv 0) pe_int set_list))
      (pss_one (ps_ret (pv 2)))))
      pss_nil)
    (pss_cons (ps_asg (pe_op op_add (pe_ix (Dat.ixL (K := K) rfl) (pv 0) pe_int (fun _ _ => rfl)) pe_int) (pg_sub (pv 0) pe_int set_list))
    (pss_cons (ps_set (i := 3) sc__law_draw.nd rfl (.inl rfl) (pe_op op_mod (pe_callTy Dat.cl_int rfl T.b_int bt_int (pa_cons (pe_op op_add (pe_op op_add (pe_op op_mul (pe_ix (Dat.ixL (K := K) rfl) (pv 0) pe_int (fun _ _ => rfl)) pe_int) (pe_op op_mul (pe_ix (Dat.ixL (K := K) rfl) (pv 0) pe_int (fun _ _ => rfl)) pe_int)) pe_int) pa_nil)) pe_int))
    (pss_cons (ps_set (i := 3) sc__law_draw.nd rfl (.inl rfl) (pe_op op_mod (pe_callTy Dat.cl_int rfl T.b_int bt_int (pa_cons (pe_op op_add (pe_op op_add (pe_op op_mul (pv 3) (pv 3)) (pe_op op_mul pe_int (pe_ix (Dat.ixL (K := K) rfl) (pv 0) pe_int (fun _ _ => rfl)))) (pe_ix (Dat.ixL (K := K) rfl) (pv 0) pe_int (fun _ _ => rfl))) pa_nil)) pe_int))
    (pss_cons (ps_set (i := 3) sc__law_draw.nd rfl (.inl rfl) (pe_op op_mod (pe_callTy Dat.cl_int rfl T.b_int bt_int (pa_cons (pe_op op_add (pe_op op_mul (pv 3) (pe_op op_add (pv 3) (pe_ix (Dat.ixL (K := K) rfl) (pv 0) pe_int (fun _ _ => rfl)))) pe_int) pa_nil)) pe_int))
    (pss_one (ps_ret (pe_op op_mod (pe_callTy Dat.cl_int rfl T.b_int bt_int (pa_cons (pe_op op_fdiv (pv 3) pe_int) pa_nil)) (pv 1))))))))), ?_⟩
  rintro as Ω P ⟨Ω0, p, m, a, b, c, rfl, rfl, m1, m2, h⟩
  have at0 : ∀ x y z : Int, atI (deckL x y z) 0 = some (.dat (.int x)) := fun _ _ _ => rfl
  have at1 : ∀ x y z : Int, atI (deckL x y z) 1 = some (.dat (.int y)) := fun _ _ _ => rfl
  have at2 : ∀ x y z : Int, atI (deckL x y z) 2 = some (.dat (.int z)) := fun _ _ _ => rfl
  refine s_seq (s_if (t_test (e_op (e_op (e_var rfl (e_int (r_ixP put_same (at0 a b c) (e_int (r_I0b ⟨_, rfl, fun _ => ?_, fun _ => s_next ?_⟩)))))))))
  · refine s_seq (s_asg (e_op (e_cb (a_cons (e_op (e_var rfl (e_int (r_ixP put_same (at0 a b c) (a_nil (c_intI (e_var rfl (r_Ii (by show (0 : Int) < m; omega) ?_))))))))))))
    refine s_seq (s_setL (e_op (e_op (e_var rfl (e_int (r_ixP put_same (at0 a b c) (e_var rfl (r_Ii (by exact ⟨by omega, by omega⟩) (e_var rfl ⟨p, rfl, e_int ⟨0, _, 0, rfl, put_same, rfl, ?_⟩⟩)))))))))
    refine s_ret (e_var rfl ?_)
    rw [put_put]
    exact h _ _ _ _ (Int.emod_nonneg _ (by omega)) (Int.emod_lt_of_pos _ (by omega))
  refine s_seq (s_setL (e_op (e_op (e_var rfl (e_int (r_ixP put_same (at2 a b c) (e_int (r_I0i (e_var rfl ⟨p, rfl, e_int ⟨2, _, 2, rfl, put_same, rfl, ?_⟩⟩)))))))))
  show SW K _ _ (put (put Ω0 p (deckL a b c)) p (deckL a b (c + 1))) _
  rw [put_put]
  refine s_seqM (fun Γ' Ω' => ∃ x : Int, 0 ≤ x ∧ x < 4294967291 ∧ Γ' = [some (.ptr p), some (.dat (.int m)), none, some (.dat (.int x))] ∧ Ω' = put Ω0 p (deckL a b (c + 1))) ?_ ?_
  · refine s_asg (e_op (e_cb (a_cons (e_op (e_op (e_op (e_op (e_var rfl (e_int (r_ixP put_same (at1 a b (c + 1)) (e_int (r_Ii (by exact .inr ⟨by decide, by decide⟩) ?_))))))))))))
    refine e_op (e_op (e_var rfl (e_int (r_ixP put_same (at2 a b (c + 1)) (e_int (r_Ii (by exact .inr ⟨by decide, by decide⟩) (r_I0i (e_int (r_I0i (a_nil (c_intI (e_int (r_Ii (by show (0 : Int) < 4294967291; decide) ?_)))))))))))))
    exact ⟨_, Int.emod_nonneg _ (by decide), Int.emod_lt_of_pos _ (by decide), rfl, rfl⟩
  rintro Γ' Ω' ⟨x, x0, x1, rfl, rfl⟩
  refine s_seqM (fun Γ' Ω' => ∃ x : Int, 0 ≤ x ∧ x < 4294967279 ∧ Γ' = [some (.ptr p), some (.dat (.int m)), none, some (.dat (.int x))] ∧ Ω' = put Ω0 p (deckL a b (c + 1))) ?_ ?_
  · refine s_asg (e_op (e_cb (a_cons (e_op (e_op (e_op (e_var rfl (e_var rfl (r_Ii (by exact .inl ⟨by omega, by omega⟩) ?_)))))))))
    refine e_op (e_int (e_op (e_var rfl (e_int (r_ixP put_same (at2 a b (c + 1)) (r_Ii (by exact .inl ⟨by decide, by decide⟩) (r_I0i ?_)))))))
    refine e_op (e_var rfl (e_int (r_ixP put_same (at1 a b (c + 1)) (r_I0i (a_nil (c_intI (e_int (r_Ii (by show (0 : Int) < 4294967279; decide) ?_))))))))
    exact ⟨_, Int.emod_nonneg _ (by decide), Int.emod_lt_of_pos _ (by decide), rfl, rfl⟩
  rintro Γ' Ω' ⟨x, x0, x1, rfl, rfl⟩
  refine s_seqM (fun Γ' Ω' => ∃ x : Int, Γ' = [some (.ptr p), some (.dat (.int m)), none, some (.dat (.int x))] ∧ Ω' = put Ω0 p (deckL a b (c + 1))) ?_ ?_
  · refine s_asg (e_op (e_cb (a_cons (e_op (e_op (e_var rfl (e_op (e_var rfl (e_op (e_var rfl (e_int (r_ixP put_same (at2 a b (c + 1)) (r_I0i (r_Ii (by exact .inl ⟨by omega, by omega⟩) (e_int (r_I0i (a_nil (c_intI (e_int (r_Ii (by show (0 : Int) < 4294967231; decide) ⟨_, rfl, rfl⟩))))))))))))))))))))
  rintro Γ' Ω' ⟨x, rfl, rfl⟩
  refine s_ret (e_op (e_cb (a_cons (e_op (e_var rfl (e_int (r_Ii (by exact ⟨by decide, by decide⟩) (a_nil (c_intI (e_var rfl (r_Ii (by show (0 : Int) < m; omega) ?_)))))))))))
  exact h _ _ _ _ (Int.emod_nonneg _ (by omega)) (Int.emod_lt_of_pos _ (by omega))
/-- a draw from the deck in a slot -/
theorem e_draw {Γ : List (Option Av)} {Ω0 : AH} {p : Addr} {i : Nat} {a b c : Int} {te : TE} {X : XK} {P : Av → AH → Prop} (hi : Γ[i]? = some (some (.ptr p)))
    (h : EW K te Γ (put Ω0 p (deckL a b c)) fun z Ω1 => ∃ m a1 b1 c1, z = .dat (.int m) ∧ Ω1 = put Ω0 p (deckL a1 b1 c1) ∧ 1 ≤ m ∧ m ≤ 1000000000 ∧ ∀ v a' b' c', 0 ≤ v → v < m → P (.dat (.int v)) (put Ω0 p (deckL a' b' c'))) :
    EW K (tCall (spA K spDraw) [] X (tCons (tVar i) (tCons te tNil))) Γ (put Ω0 p (deckL a b c)) P :=
  e_call (a_cons (e_var hi (a_cons (h.mono fun z Ω1 ⟨m, a1, b1, c1, e1, e2, m1, m2, q⟩ => a_nil ⟨Ω0, p, m, a1, b1, c1, by rw [e1], e2, m1, m2, q⟩))))
theorem e_drawN {Γ : List (Option Av)} {Ω0 : AH} {p : Addr} {i : Nat} {m a b c : Int} {X : XK} {P : Av → AH → Prop} (hi : Γ[i]? = some (some (.ptr p))) (m1 : 1 ≤ m) (m2 : m ≤ 1000000000)
    (h : ∀ v a' b' c', 0 ≤ v → v < m → P (.dat (.int v)) (put Ω0 p (deckL a' b' c'))) :
    EW K (tCall (spA K spDraw) [] X (tCons (tVar i) (tCons (tC (.int m)) tNil))) Γ (put Ω0 p (deckL a b c)) P :=
  e_draw hi (e_int ⟨m, a, b, c, rfl, rfl, m1, m2, h⟩)
theorem r_ixL_any {Ω : AH} {ds : List PyData} {v : Int} {P : Av → AH → Prop} (h0 : 0 ≤ v) (h1 : v < ds.length) (h : ∀ d ∈ ds, P (.dat d) Ω) : R2W K (rIxL K) (.dat (.list ds)) (.dat (.int v)) Ω P := by
  obtain ⟨n, rfl⟩ : ∃ n : Nat, v = n := ⟨v.toNat, (Int.toNat_of_nonneg h0).symm⟩
  have hn : n < ds.length := by omega
  exact r_ixL (atI_nat' (List.getElem?_eq_getElem hn)) (h _ (List.getElem_mem hn))
theorem r_ixT_any {Ω : AH} {ds : List PyData} {v : Int} {P : Av → AH → Prop} (h0 : 0 ≤ v) (h1 : v < ds.length) (h : ∀ d ∈ ds, P (.dat d) Ω) : R2W K (rIxT K) (.dat (.tuple ds)) (.dat (.int v)) Ω P := by
  obtain ⟨n, rfl⟩ : ∃ n : Nat, v = n := ⟨v.toNat, (Int.toNat_of_nonneg h0).symm⟩
  have hn : n < ds.length := by omega
  exact r_ixT (atI_nat' (List.getElem?_eq_getElem hn)) (h _ (List.getElem_mem hn))
theorem put_comm {Ω : AH} {p q : Addr} {as bs : List Av} (h : p ≠ q) : put (put Ω p as) q bs = put (put Ω q bs) p as := by
  refine AH.ext (fun a => ?_) rfl
  unfold put
  dsimp only
  by_cases e1 : a = q
  · by_cases e2 : a = p
    · exact absurd (e2.symm.trans e1) h
    · rw [if_pos e1, if_neg e2, if_pos e1]
  · rw [if_neg e1, if_neg e1]
end
end K20

set_option Elab.async false
set_option linter.all false
set_option maxRecDepth 100000
set_option maxHeartbeats 1000000
namespace K20
open PySem PySem.Spec PyProof.Rows L2 Dat
local macro_rules | `(tactic| trivial) => `(tactic| (first
  | (with_reducible refine s_seq ?_)
  | (with_reducible refine s_asg ?_)
  | (with_reducible refine s_ret ?_)
  | (with_reducible refine s_drop ?_)
  | (with_reducible refine s_next ?_)
  | (with_reducible refine s_retN ?_)
  | (with_reducible refine s_brk ?_)
  | (with_reducible refine s_cont ?_)
  | (with_reducible refine s_if ?_)
  | (with_reducible refine e_int ?_)
  | (with_reducible refine e_str ?_)
  | (with_reducible refine e_bl ?_)
  | (with_reducible refine e_non ?_)
  | (with_reducible refine e_ty ?_)
  | (with_reducible refine e_tupD ?_)
  | (with_reducible refine e_lstD ?_)
  | (with_reducible refine e_op ?_)
  | (with_reducible refine e_un ?_)
  | (with_reducible refine e_then ?_)
  | (with_reducible refine e_cb ?_)
  | (with_reducible refine e_call ?_)
  | (with_reducible refine e_if ?_)
  | (with_reducible refine e_chain ?_)
  | (with_reducible refine e_andV ?_)
  | (with_reducible refine e_orV ?_)
  | (with_reducible refine e_notV ?_)
  | (with_reducible refine a_cons ?_)
  | (with_reducible refine a_nil ?_)
  | (with_reducible refine t_test ?_)
  | (with_reducible refine t_B ?_)
  | (with_reducible refine t_not ?_)
  | (with_reducible refine t_and ?_)
  | (with_reducible refine t_or ?_)
  | (with_reducible refine r_I0i ?_)
  | (with_reducible refine r_I0b ?_)
  | (with_reducible refine r_neg ?_)
  | (with_reducible refine r_isN ?_)
  | (with_reducible refine r_notN ?_)
  | (with_reducible refine c_lenT ?_)
  | (with_reducible refine c_lenL ?_)
  | (with_reducible refine c_intI ?_)
  | (with_reducible refine c_intB ?_)
  | (with_reducible refine c_max2 ?_)
  | (with_reducible refine c_min2 ?_)
  | (with_reducible refine c_abs ?_)
  | (with_reducible refine r_tupL ?_)
  | (with_reducible refine r_tupT ?_)
  | (with_reducible refine c_allM ?_)
  | ((with_reducible apply e_var); (exact rfl))
  | ((with_reducible refine r_eq ?_ ?_); (exact rfl))
  | ((with_reducible refine r_ne ?_ ?_); (exact rfl))
  | (with_reducible refine c_isi kit_int ?_)
  | (with_reducible refine c_isi kit_bool ?_)
  | (with_reducible refine c_isi kit_tuple ?_)
  | (with_reducible refine c_isi kit_list ?_)
  | (with_reducible refine c_isi kit_str ?_)
  | ((with_reducible apply r_ixT); (exact rfl))
  | ((with_reducible apply dats_pack); (iterate 40 (first | exact Dats.nil | apply Dats.cons | skip)); (exact rfl))
  | (with_reducible refine s_asgG ?_) | (with_reducible refine g_name ?_) | ((with_reducible refine g_tup ?_ ?_); (exact rfl)) | (refine gs_nil ?_) | (refine gs_cons ?_) | (with_reducible refine ⟨rfl, ?_⟩)
  | (refine ⟨_, rfl, ?_⟩) | (refine ⟨_, _, rfl, ?_⟩) | (refine ⟨_, _, _, rfl, ?_⟩) | (with_reducible refine ⟨fun _ => ?_, fun _ => ?_⟩) | fail))
section
variable {P : Program} {w : World} {K : PySem.W.Frag} [Tb K] {mg : Str → Option Value} {base : Heap}
def intsOf (ds : List PyData) : List Int := ds.map intOf
theorem r_ixL_ints {Ω : AH} {ds : List PyData} {v : Int} {P : Av → AH → Prop} (lo hi : Int) (e : ds = (intsOf ds).map PyData.int) (hb : ∀ n ∈ intsOf ds, lo ≤ n ∧ n ≤ hi) (h0 : 0 ≤ v) (h1 : v < ds.length)
    (h : ∀ n, lo ≤ n → n ≤ hi → P (.dat (.int n)) Ω) : R2W K (rIxL K) (.dat (.list ds)) (.dat (.int v)) Ω P :=
  r_ixL_any h0 h1 fun d hd => by
    rw [e] at hd
    obtain ⟨n, hn, rfl⟩ := List.mem_map.mp hd
    exact h n (hb n hn).1 (hb n hn).2
/-- a literal list of numbers -/
def tLits : List Int → TA
  | [] => tNil
  | n :: r => tCons (tC (.int n)) (tLits r)
theorem a_lits {Γ : List (Option Av)} {Ω : AH} : ∀ (ns : List Int) {P : List Av → AH → Prop}, P ((ns.map PyData.int).map .dat) Ω → AW K (tLits ns) Γ Ω P
  | [], _, h => a_nil h
  | n :: r, _, h => a_cons (e_int (a_lits r h))
theorem e_lits {Γ : List (Option Av)} {Ω : AH} {P : Av → AH → Prop} (ns : List Int) (h : P (.dat (.list (ns.map PyData.int))) Ω) (hl : Nat.ble ns.length 100000 = true := by rfl) : EW K (tLst (tLits ns)) Γ Ω P :=
  e_lst (a_lits ns ⟨_, rfl, by rw [List.length_map]; exact Nat.le_of_ble_eq_true hl, h⟩)
theorem choice12 {m x y : Int} {ns : List Int} (x1 : 1 ≤ x) (x2 : x ≤ m) (y1 : 1 ≤ y) (y2 : y ≤ m) (hs : ns.Pairwise (· < ·)) (hm : ∀ k, k ∈ ns ↔ k ∈ [x, y]) : choiceD m (.tuple (ns.map PyData.int)) = true := by
  have hx : x ∈ ns := (hm x).mpr (by simp)
  have hy : y ∈ ns := (hm y).mpr (by simp)
  have bd : ∀ k ∈ ns, 1 ≤ k ∧ k ≤ m := fun k hk => by
    have := (hm k).mp hk
    simp only [List.mem_cons, List.not_mem_nil, or_false] at this
    rcases this with rfl | rfl <;> exact ⟨by assumption, by assumption⟩
  match ns, hs, hm, hx, hy, bd with
  | [], _, _, hx, _, _ => cases hx
  | [a], _, _, _, _, bd =>
    have h := bd a (by simp)
    simp [choiceD, inD, h.1, h.2]
  | [a, b], hs, _, _, _, bd =>
    have h := bd a (by simp)
    have h2 := bd b (by simp)
    have h3 : a < b := by simpa using hs
    simp [choiceD, inD, lt2, h.1, h.2, h2.1, h2.2, h3]
  | a :: b :: c :: r, hs, hm, _, _, _ =>
    have ha := (hm a).mp (by simp)
    have hb := (hm b).mp (by simp)
    have hc := (hm c).mp (by simp)
    simp only [List.mem_cons, List.not_mem_nil, or_false] at ha hb hc
    rw [List.pairwise_cons] at hs
    obtain ⟨p1, p2⟩ := hs
    rw [List.pairwise_cons] at p2
    have q1 := p1 b (by simp)
    have q2 := p1 c (by simp)
    have q3 := p2.1 c (by simp)
    omega
theorem inD_of {lo hi i : Int} (h0 : lo ≤ i) (h1 : i ≤ hi) : inD lo hi (.int i) = true := by
  simp [inD, h0, h1]
theorem all4 {ds : List PyData} (h : ∃ ns : List Int, ds = ns.map PyData.int ∧ ns.length = 4 ∧ ∀ n ∈ ns, 0 ≤ n ∧ n ≤ 5) : pricesD (.tuple ds) = true := by
  obtain ⟨ns, rfl, l, hb⟩ := h
  simp only [pricesD, List.length_map, l, List.all_map, Bool.and_eq_true, decide_eq_true_eq, List.all_eq_true]
  exact ⟨trivial, fun n hn => inD_of (hb n hn).1 (hb n hn).2⟩
abbrev spSetup : ASp := fun as Ω P => ∃ (Ω0 : AH) (p : Addr) (m a b c : Int), as = [.ptr p, .dat (.int m)] ∧ Ω = put Ω0 p (deckL a b c) ∧ 0 ≤ m ∧ m ≤ 2 ∧ ∀ d a' b' c', setupD d = true → P (.dat d) (put Ω0 p (deckL a' b' c'))
theorem ok_setup (T : Top K mg) : FnOk P w K mg base CX0 2 T.f__law_setup T.d__law_setup ["_law_deck_here", "_law_small"] (spA K spSetup) := by
  have G__law_draw : FnOk P w K mg base CX0 1 T.f__law_draw T.d__law_draw ["_law_deck_here", "_law_many"] (spA K spDraw) := ok_draw T
  refine fnA_ok T.D__law_setup.F sc__law_setup (fun as Ω P ⟨Ω0, p, m, a, b, c, e, _⟩ => by subst e; rfl) (fun cdv A outer s H E hr => ?_)
  refine ⟨_, (pss_cons (ps_set (i := 2) sc__law_setup.nd rfl (.inl rfl) (pe_op op_add pe_int (pe_call G__law_draw (hr.mono (by omega)) rfl T.D__law_draw.g T.D__law_draw.F.kp T.D__law_draw.b .nil pass0 (pa_cons (pv 0) (pa_cons (pe_ix (Dat.ixL (K := K) rfl) (pe_lst (pa_cons pe_int (pa_cons pe_int (pa_cons pe_int (pa_cons pe_int pa_nil))))) (pe_call G__law_draw (hr.mono (by omega)) rfl T.D__law_draw.g T.D__law_draw.F.kp T.D__law_draw.b .nil pass0 (pa_cons (pv 0) (pa_cons pe_int pa_nil))) (fun _ _ => rfl)) pa_nil)))))
    (pss_cons (ps_set (i := 3) sc__law_setup.nd rfl (.inl rfl) (Dat.pe_tupleK (K := K) rfl rfl T.b_tuple (pe_callB (Dat.sortSetQ (w := w) rfl rfl) rfl T.b_sorted bt_sorted (pa_cons (pe_callTy (Dat.setLQ (w := w) rfl rfl) rfl T.b_set bt_set (pa_cons (pe_lst (pa_cons (pe_op op_add pe_int (pe_call G__law_draw (hr.mono (by omega)) rfl T.D__law_draw.g T.D__law_draw.F.kp T.D__law_draw.b .nil pass0 (pa_cons (pv 0) (pa_cons (pv 2) pa_nil)))) (pa_cons (pe_op op_add pe_int (pe_call G__law_draw (hr.mono (by omega)) rfl T.D__law_draw.g T.D__law_draw.F.kp T.D__law_draw.b .nil pass0 (pa_cons (pv 0) (pa_cons (pv 2) pa_nil)))) pa_nil))) pa_nil)) pa_nil))))
    (pss_cons (ps_set (i := 4) sc__law_setup.nd rfl (.inl rfl) (pe_tup (pa_cons (pe_op op_add pe_int (pe_call G__law_draw (hr.mono (by omega)) rfl T.D__law_draw.g T.D__law_draw.F.kp T.D__law_draw.b .nil pass0 (pa_cons (pv 0) (pa_cons (pe_ix (Dat.ixL (K := K) rfl) (pe_lst (pa_cons pe_int (pa_cons pe_int (pa_cons pe_int pa_nil)))) (pv 1) (fun _ _ => rfl)) pa_nil)))) (pa_cons (pe_call G__law_draw (hr.mono (by omega)) rfl T.D__law_draw.g T.D__law_draw.F.kp T.D__law_draw.b .nil pass0 (pa_cons (pv 0) (pa_cons (pe_ix (Dat.ixL (K := K) rfl) (pe_lst (pa_cons pe_int (pa_cons pe_int (pa_cons pe_int pa_nil)))) (pv 1) (fun _ _ => rfl)) pa_nil))) pa_nil))))
    (pss_cons (ps_set (i := 5) sc__law_setup.nd rfl (.inl rfl) (pe_tup (pa_cons (pe_callTy Dat.cl_int rfl T.b_int bt_int (pa_cons (pe_cmpR op_gt (pe_call G__law_draw (hr.mono (by omega)) rfl T.D__law_draw.g T.D__law_draw.F.kp T.D__law_draw.b .nil pass0 (pa_cons (pv 0) (pa_cons pe_int pa_nil))) pe_int (nomark _)) pa_nil)) (pa_cons (pe_call G__law_draw (hr.mono (by omega)) rfl T.D__law_draw.g T.D__law_draw.F.kp T.D__law_draw.b .nil pass0 (pa_cons (pv 0) (pa_cons (pe_ix (Dat.ixL (K := K) rfl) (pe_lst (pa_cons pe_int (pa_cons pe_int (pa_cons pe_int pa_nil)))) (pv 1) (fun _ _ => rfl)) pa_nil))) pa_nil))))
    (pss_cons (ps_set (i := 6) sc__law_setup.nd rfl (.inl rfl) (Dat.pe_tupleK (K := K) rfl rfl T.b_tuple (pe_callB (Dat.sortSetQ (w := w) rfl rfl) rfl T.b_sorted bt_sorted (pa_cons (pe_callTy (Dat.setLQ (w := w) rfl rfl) rfl T.b_set bt_set (pa_cons (pe_lst (pa_cons (pe_op op_add pe_int (pe_call G__law_draw (hr.mono (by omega)) rfl T.D__law_draw.g T.D__law_draw.F.kp T.D__law_draw.b .nil pass0 (pa_cons (pv 0) (pa_cons (pe_op op_sub pe_int (pv 1)) pa_nil)))) (pa_cons (pe_op op_add pe_int (pe_call G__law_draw (hr.mono (by omega)) rfl T.D__law_draw.g T.D__law_draw.F.kp T.D__law_draw.b .nil pass0 (pa_cons (pv 0) (pa_cons (pe_op op_sub pe_int (pv 1)) pa_nil)))) pa_nil))) pa_nil)) pa_nil))))
    (pss_cons (ps_set (i := 7) sc__law_setup.nd rfl (.inl rfl) (Dat.pe_tupleK (K := K) rfl rfl T.b_tuple (pe_lc (own := [("_law_k", 8)]) (g := (gName 8)) (tt := tYes) rfl sc__law_setup.nd (pi_range1 rfl T.b_range (pa_cons pe_int pa_nil)) (blkOk_by (N := N__law_setup) (sc := defScope s__law_setup) (by decide +kernel)) (fun _ _ _ _ _ => (pg_name (i := 8) sc__law_setup.nd rfl (Or.inl rfl))) (fun _ _ _ _ _ => pts_nil) (fun _ _ _ _ _ => (pe_call G__law_draw (hr.mono (by omega)) rfl T.D__law_draw.g T.D__law_draw.F.kp T.D__law_draw.b .nil pass0 (pa_cons (pv 0) (pa_cons pe_int pa_nil)))))))
    (pss_one (ps_ret (pe_tup (pa_cons (pv 2) (pa_cons (pv 3) (pa_cons (pv 4) (pa_cons (pv 5) (pa_cons (pv 6) (pa_cons (pe_op op_add pe_int (pe_call G__law_draw (hr.mono (by omega)) rfl T.D__law_draw.g T.D__law_draw.F.kp T.D__law_draw.b .nil pass0 (pa_cons (pv 0) (pa_cons (pe_op op_sub pe_int (pe_callTy Dat.cl_int rfl T.b_int bt_int (pa_cons (pe_cmpR op_gt (pv 1) pe_int (nomark _)) pa_nil))) pa_nil)))) (pa_cons (pv 7) pa_nil)))))))))))))))), ?_⟩
  rintro as Ω P ⟨Ω0, p, m, a, b, c, rfl, rfl, m0, m2, h⟩
  refine s_seqM (fun Γ' Ω' => ∃ n a b c : Int, 1 ≤ n ∧ n ≤ 4 ∧ Γ' = [some (.ptr p), some (.dat (.int m)), some (.dat (.int n)), none, none, none, none, none, none] ∧ Ω' = put Ω0 p (deckL a b c)) ?_ ?_
  · refine s_asg (e_op (e_int (e_draw rfl (e_op (e_lits [3, 3, 4, 4] (e_drawN rfl (by decide) (by decide) fun v a b c v0 v1 => r_ixL_ints 3 4 rfl (by decide) v0 v1 fun n n0 n1 => ⟨n, a, b, c, rfl, rfl, by omega, by omega, fun v a b c v0 v1 => r_I0i ⟨_, a, b, c, by omega, by omega, rfl, rfl⟩⟩))))))
  rintro Γ' Ω' ⟨n, a, b, c, n1, n4, rfl, rfl⟩
  refine s_seqM (fun Γ' Ω' => ∃ (z : PyData) (a b c : Int), choiceD n z = true ∧ Γ' = [some (.ptr p), some (.dat (.int m)), some (.dat (.int n)), some (.dat z), none, none, none, none, none] ∧ Ω' = put Ω0 p (deckL a b c)) ?_ ?_
  · refine s_asg (e_then (e_sortSet (a_cons (e_lstD (a_cons (e_op (e_int (e_draw rfl (e_var rfl ⟨_, a, b, c, rfl, rfl, by omega, by omega, fun x a b c x0 x1 => r_I0i ?_⟩)))))))))
    refine a_cons (e_op (e_int (e_draw rfl (e_var rfl ⟨_, a, b, c, rfl, rfl, by omega, by omega, fun y a b c y0 y1 => r_I0i (a_nil ⟨[.int (1 + x), .int (1 + y)], .cons (.cons .nil), rfl, a_nil ⟨[1 + x, 1 + y], .cons .nil, by simp, fun ns hs hm => r_tupL ⟨_, a, b, c, ?_, rfl, rfl⟩⟩⟩)⟩))))
    exact choice12 (by omega) (by omega) (by omega) (by omega) hs hm
  rintro Γ' Ω' ⟨z, a, b, c, hz, rfl, rfl⟩
  refine s_seqM (fun Γ' Ω' => ∃ (r1 r2 a b c : Int), 1 ≤ r1 ∧ r1 ≤ 2 ∧ 0 ≤ r2 ∧ r2 ≤ 2 ∧ Γ' = [some (.ptr p), some (.dat (.int m)), some (.dat (.int n)), some (.dat z), some (.dat (.tuple [.int r1, .int r2])), none, none, none, none] ∧ Ω' = put Ω0 p (deckL a b c)) ?_ ?_
  · refine s_asg (e_tupD (a_cons (e_op (e_int (e_draw rfl (e_op (e_lits [2, 2, 1] (e_var rfl (r_ixL_ints 1 2 rfl (by decide) m0 (by show m < 3; omega) fun k k0 k1 => ⟨k, a, b, c, rfl, rfl, by omega, by omega, fun x a b c x0 x1 => r_I0i ?_⟩)))))))))
    refine a_cons (e_draw rfl (e_op (e_lits [3, 2, 2] (e_var rfl (r_ixL_ints 2 3 rfl (by decide) m0 (by show m < 3; omega) fun k k0 k1 => ⟨k, a, b, c, rfl, rfl, by omega, by omega, fun y a b c y0 y1 => a_nil ⟨_, .cons (.cons .nil), rfl, _, _, a, b, c, ?_, ?_, ?_, ?_, rfl, rfl⟩⟩)))))
    all_goals omega
  rintro Γ' Ω' ⟨r1, r2, a, b, c, i1, i2, i3, i4, rfl, rfl⟩
  refine s_seqM (fun Γ' Ω' => ∃ (c1 c2 a b c : Int), 0 ≤ c1 ∧ c1 ≤ 1 ∧ 0 ≤ c2 ∧ c2 ≤ 2 ∧ Γ' = [some (.ptr p), some (.dat (.int m)), some (.dat (.int n)), some (.dat z), some (.dat (.tuple [.int r1, .int r2])), some (.dat (.tuple [.int c1, .int c2])), none, none, none] ∧ Ω' = put Ω0 p (deckL a b c)) ?_ ?_
  · refine s_asg (e_tupD (a_cons (e_cb (a_cons (e_op (e_drawN rfl (by decide) (by decide) fun v a b c v0 v1 => e_int (r_I0b (a_nil (c_intB ?_)))))))))
    refine a_cons (e_draw rfl (e_op (e_lits [3, 3, 2] (e_var rfl (r_ixL_ints 2 3 rfl (by decide) m0 (by show m < 3; omega) fun k k0 k1 => ⟨k, a, b, c, rfl, rfl, by omega, by omega, fun y a b c y0 y1 => a_nil ⟨_, .cons (.cons .nil), rfl, _, _, a, b, c, ?_, ?_, ?_, ?_, rfl, rfl⟩⟩)))))
    · split <;> decide
    · split <;> decide
    all_goals omega
  rintro Γ' Ω' ⟨c1, c2, a, b, c, j1, j2, j3, j4, rfl, rfl⟩
  refine s_seqM (fun Γ' Ω' => ∃ (y : PyData) (a b c : Int), choiceD 4 y = true ∧ Γ' = [some (.ptr p), some (.dat (.int m)), some (.dat (.int n)), some (.dat z), some (.dat (.tuple [.int r1, .int r2])), some (.dat (.tuple [.int c1, .int c2])), some (.dat y), none, none] ∧ Ω' = put Ω0 p (deckL a b c)) ?_ ?_
  · refine s_asg (e_then (e_sortSet (a_cons (e_lstD (a_cons (e_op (e_int (e_draw rfl (e_op (e_int (e_var rfl (r_I0i ⟨_, a, b, c, rfl, rfl, by omega, by omega, fun x a b c x0 x1 => r_I0i ?_⟩))))))))))))
    refine a_cons (e_op (e_int (e_draw rfl (e_op (e_int (e_var rfl (r_I0i ⟨_, a, b, c, rfl, rfl, by omega, by omega, fun y a b c y0 y1 => r_I0i (a_nil ⟨[.int (1 + x), .int (1 + y)], .cons (.cons .nil), rfl, a_nil ⟨[1 + x, 1 + y], .cons .nil, by simp, fun ns hs hm => r_tupL ⟨_, a, b, c, ?_, rfl, rfl⟩⟩⟩)⟩)))))))
    exact choice12 (by omega) (by omega) (by omega) (by omega) hs hm
  rintro Γ' Ω' ⟨y, a, b, c, hy, rfl, rfl⟩
  refine s_seqM (fun Γ' Ω' => ∃ (q : PyData) (a b c : Int), pricesD q = true ∧ Γ' = [some (.ptr p), some (.dat (.int m)), some (.dat (.int n)), some (.dat z), some (.dat (.tuple [.int r1, .int r2])), some (.dat (.tuple [.int c1, .int c2])), some (.dat y), some (.dat q), none] ∧ Ω' = put Ω0 p (deckL a b c)) ?_ ?_
  · refine s_asg (e_then ?_)
    refine e_lc (gn_name (by decide)) (fun D as i acc Ω' => Ω0 D = none ∧ D ≠ p ∧ ∃ (ns : List Int) (a b c : Int), as = rngA 0 4 ∧ acc = (ns.map PyData.int).map .dat ∧ ns.length = i ∧ (∀ n ∈ ns, 0 ≤ n ∧ n ≤ 5) ∧ Ω' = put (put Ω0 D acc) p (deckL a b c)) ?_
    refine i_rng1 (a_cons (e_int (a_nil ⟨4, rfl, by decide, by decide, fun D nD => ⟨?_, fun i x acc Ω' ex hM => ?_, fun acc Ω' hM => ?_⟩⟩)))
    · have ne : D ≠ p := fun e => by rw [e, put_same] at nD; cases nD
      rw [put_ne ne] at nD
      exact ⟨nD, ne, [], a, b, c, rfl, rfl, rfl, nofun, put_comm ne.symm⟩
    · obtain ⟨nD, ne, ns, a, b, c, _, rfl, hl, hb, rfl⟩ := hM
      refine ⟨by rw [put_ne ne, put_same], by rw [List.length_map, List.length_map]; omega, g_name (t_yes ⟨fun _ => ?_, nofun⟩)⟩
      refine e_drawN rfl (by decide) (by decide) fun v a b c v0 v1 => ⟨by rw [put_ne ne, put_same], nD, ne, ns ++ [v], a, b, c, rfl, by simp, by simp [hl], fun k hk => ?_, ?_⟩
      · rcases List.mem_append.mp hk with hk | hk
        · exact hb k hk
        · rw [List.mem_singleton] at hk
          omega
      · rw [put_comm ne.symm, put_put]
    · obtain ⟨nD, ne, ns, a, b, c, _, rfl, hl, hb, rfl⟩ := hM
      refine r_tupP (by rw [put_ne ne, put_same]) ⟨_, a, b, c, all4 ⟨ns, rfl, hl, hb⟩, rfl, ?_⟩
      rw [put_comm ne, del_put (by rw [put_ne ne]; exact nD)]
  rintro Γ' Ω' ⟨q, a, b, c, hq, rfl, rfl⟩
  refine s_ret (e_tupD (a_cons (e_var rfl (a_cons (e_var rfl (a_cons (e_var rfl (a_cons (e_var rfl (a_cons (e_var rfl (a_cons (e_op (e_int (e_draw rfl (e_op (e_int (e_cb (a_cons (e_op (e_var rfl (e_int (r_I0b (a_nil (c_intB (r_I0i ⟨_, a, b, c, rfl, rfl, ?_, ?_, fun x a b c x0 x1 => r_I0i (a_cons (e_var rfl (a_nil ⟨_, .cons (.cons (.cons (.cons (.cons (.cons (.cons .nil)))))), rfl, h _ a b c ?_⟩)))⟩))))))))))))))))))))))))))
  · split <;> decide
  · split <;> decide
  have x3 : x < 3 := by
    revert x1
    split <;> omega
  simp [setupD, inD_of n1 n4, intOf, hz, pairD, fstD, sndD, inD_of i1 i2, inD_of i3 i4, inD_of j1 j2, inD_of j3 j4, hy, hq, inD_of (show (1 : Int) ≤ 1 + x by omega) (show 1 + x ≤ 3 by omega)]
end
end K20

set_option Elab.async false
set_option linter.all false
set_option maxRecDepth 100000
set_option maxHeartbeats 1000000
namespace K20
open PySem PySem.Spec PyProof.Rows L2 Dat
local macro_rules | `(tactic| trivial) => `(tactic| (first
  | (with_reducible refine s_seq ?_)
  | (with_reducible refine s_asg ?_)
  | (with_reducible refine s_ret ?_)
  | (with_reducible refine s_drop ?_)
  | (with_reducible refine s_next ?_)
  | (with_reducible refine s_retN ?_)
  | (with_reducible refine s_brk ?_)
  | (with_reducible refine s_cont ?_)
  | (with_reducible refine s_if ?_)
  | (with_reducible refine e_int ?_)
  | (with_reducible refine e_str ?_)
  | (with_reducible refine e_bl ?_)
  | (with_reducible refine e_non ?_)
  | (with_reducible refine e_ty ?_)
  | (with_reducible refine e_tupD ?_)
  | (with_reducible refine e_lstD ?_)
  | (with_reducible refine e_op ?_)
  | (with_reducible refine e_un ?_)
  | (with_reducible refine e_then ?_)
  | (with_reducible refine e_cb ?_)
  | (with_reducible refine e_call ?_)
  | (with_reducible refine e_if ?_)
  | (with_reducible refine e_chain ?_)
  | (with_reducible refine e_andV ?_)
  | (with_reducible refine e_orV ?_)
  | (with_reducible refine e_notV ?_)
  | (with_reducible refine a_cons ?_)
  | (with_reducible refine a_nil ?_)
  | (with_reducible refine t_test ?_)
  | (with_reducible refine t_B ?_)
  | (with_reducible refine t_not ?_)
  | (with_reducible refine t_and ?_)
  | (with_reducible refine t_or ?_)
  | (with_reducible refine r_I0i ?_)
  | (with_reducible refine r_I0b ?_)
  | (with_reducible refine r_neg ?_)
  | (with_reducible refine r_isN ?_)
  | (with_reducible refine r_notN ?_)
  | (with_reducible refine c_lenT ?_)
  | (with_reducible refine c_lenL ?_)
  | (with_reducible refine c_intI ?_)
  | (with_reducible refine c_intB ?_)
  | (with_reducible refine c_max2 ?_)
  | (with_reducible refine c_min2 ?_)
  | (with_reducible refine c_abs ?_)
  | (with_reducible refine r_tupL ?_)
  | (with_reducible refine r_tupT ?_)
  | (with_reducible refine c_allM ?_)
  | ((with_reducible apply e_var); (exact rfl))
  | ((with_reducible refine r_eq ?_ ?_); (exact rfl))
  | ((with_reducible refine r_ne ?_ ?_); (exact rfl))
  | (with_reducible refine c_isi kit_int ?_)
  | (with_reducible refine c_isi kit_bool ?_)
  | (with_reducible refine c_isi kit_tuple ?_)
  | (with_reducible refine c_isi kit_list ?_)
  | (with_reducible refine c_isi kit_str ?_)
  | ((with_reducible apply r_ixT); (exact rfl))
  | ((with_reducible apply dats_pack); (iterate 40 (first | exact Dats.nil | apply Dats.cons | skip)); (exact rfl))
  | (with_reducible refine s_asgG ?_) | (with_reducible refine g_name ?_) | ((with_reducible refine g_tup ?_ ?_); (exact rfl)) | (refine gs_nil ?_) | (refine gs_cons ?_) | (with_reducible refine ⟨rfl, ?_⟩)
  | (refine ⟨_, rfl, ?_⟩) | (refine ⟨_, _, rfl, ?_⟩) | (refine ⟨_, _, _, rfl, ?_⟩) | (with_reducible refine ⟨fun _ => ?_, fun _ => ?_⟩) | fail))
/-! ### setups, rows of a rule, comers: what they are -/
abbrev itup (ns : List Int) : PyData := .tuple (ns.map PyData.int)
abbrev rng (lo hi : Int) : PyData := .tuple [.int lo, .int hi]
structure Shop where
  n : Int
  sizes : List Int
  r1 : Int
  r2 : Int
  c1 : Int
  c2 : Int
  kinds : PyData
  life : Int
  prices : PyData
abbrev Shop.enc (s : Shop) : PyData := .tuple [.int s.n, itup s.sizes, .tuple [.int s.r1, .int s.r2], .tuple [.int s.c1, .int s.c2], s.kinds, .int s.life, s.prices]
structure Shop.Ok (s : Shop) : Prop where
  n1 : 1 ≤ s.n
  n4 : s.n ≤ 4
  z1 : 1 ≤ s.sizes.length
  z2 : s.sizes.length ≤ 2
  zb : ∀ z ∈ s.sizes, 1 ≤ z ∧ z ≤ s.n
  r11 : 1 ≤ s.r1
  r12 : s.r1 ≤ 2
  r20 : 0 ≤ s.r2
  r22 : s.r2 ≤ 2
  c10 : 0 ≤ s.c1
  c11 : s.c1 ≤ 1
  c20 : 0 ≤ s.c2
  c22 : s.c2 ≤ 2
  d : setupD s.enc = true
theorem shop_of {d : PyData} (h : setupD d = true) : ∃ s : Shop, d = s.enc ∧ s.Ok := by
  have h0 := h
  unfold setupD at h
  split at h
  · rename_i seats sizes rooms comers kinds life prices
    simp only [Bool.and_eq_true] at h
    obtain ⟨h1, h2, h3, h4, h5, h6, h7, h8, h9, h10, h11⟩ := h
    obtain ⟨n, rfl, n1, n4⟩ := inD_or h1
    obtain ⟨a, b, rfl⟩ := pair_or h3
    obtain ⟨a', b', rfl⟩ := pair_or h6
    obtain ⟨r1, e1, i1, i2⟩ := inD_or h4
    obtain ⟨r2, e2, i3, i4⟩ := inD_or h5
    obtain ⟨c1, e3, i5, i6⟩ := inD_or h7
    obtain ⟨c2, e4, i7, i8⟩ := inD_or h8
    obtain ⟨lf, rfl, _, _⟩ := inD_or h10
    cases e1
    cases e2
    cases e3
    cases e4
    rcases tup_or sizes with ⟨zs, rfl⟩ | hn
    · simp only [choiceD, Bool.and_eq_true, decide_eq_true_eq] at h2
      obtain ⟨⟨z1, z2⟩, z3, z4⟩ := h2
      obtain ⟨ns, rfl⟩ := all_in z3
      rw [List.length_map] at z1 z2
      refine ⟨⟨n, ns, r1, r2, c1, c2, kinds, lf, prices⟩, rfl, ⟨n1, n4, z1, z2, fun z hz => ?_, i1, i2, i3, i4, i5, i6, i7, i8, h0⟩⟩
      have := List.all_eq_true.mp z3 (.int z) (List.mem_map.mpr ⟨z, hz, rfl⟩)
      simp only [inD, Bool.and_eq_true, decide_eq_true_eq] at this
      exact this
    · exfalso
      cases sizes <;> first | (cases h2; done) | (cases hn; done)
  · cases h
inductive Deed
  | group
  | single
  | go
deriving DecidableEq
def Deed.str : Deed → Str
  | .group => "group"
  | .single => "single"
  | .go => "go"
structure Rw where
  m : Int
  f : Int × Int
  l : Int × Int
  s : Int × Int
  o : Int × Int
  d : Deed
  a : Int
abbrev Rw.enc (r : Rw) : PyData := .tuple [.int r.m, rng r.f.1 r.f.2, rng r.l.1 r.l.2, rng r.s.1 r.s.2, rng r.o.1 r.o.2, .str r.d.str, .int r.a]
def sOk (p : Int × Int) : Prop := 0 ≤ p.1 ∧ p.1 ≤ p.2 ∧ p.2 ≤ 9
structure Rw.Ok (r : Rw) : Prop where
  m0 : 0 ≤ r.m
  m2 : r.m ≤ 2
  f : sOk r.f
  l : sOk r.l
  s : sOk r.s
  o : r.o = (0, 9)
  a0 : 0 ≤ r.a
  a2 : r.a ≤ 2
theorem span_rng {lo hi : Int} (h0 : 0 ≤ lo) (h1 : lo ≤ hi) (h2 : hi ≤ 9) : spanD (rng lo hi) = true := by
  simp [spanD, inD_of h0 (show lo ≤ 9 by omega), inD_of (show 0 ≤ hi by omega) h2, intOf, h1]
theorem deed_in (d : Deed) : (seatWs.any fun w => isStr w (.str d.str)) = true := by
  cases d <;> decide
theorem Rw.Ok.rowD {r : Rw} (h : r.Ok) : K20.rowD seatWs r.enc = true := by
  have e1 : K20.inD 0 2 (.int r.m) = true := inD_of h.m0 h.m2
  have e2 : K20.inD 0 2 (.int r.a) = true := inD_of h.a0 h.a2
  have s1 := span_rng h.f.1 h.f.2.1 h.f.2.2
  have s2 := span_rng h.l.1 h.l.2.1 h.l.2.2
  have s3 := span_rng h.s.1 h.s.2.1 h.s.2.2
  have s4 : spanD (rng r.o.1 r.o.2) = true := by
    rw [h.o]
    rfl
  simp only [K20.rowD, e1, e2, deed_in, s1, s2, s3, s4, List.all_cons, List.all_nil, Bool.and_self]
abbrev rules (rs : List Rw) : PyData := .tuple (rs.map Rw.enc)
structure RsOk (rs : List Rw) : Prop where
  len : rs.length ≤ 6
  all : ∀ r ∈ rs, r.Ok
theorem RsOk.seatsD {rs : List Rw} (h : RsOk rs) : K20.seatsD (rules rs) = true := by
  simp only [K20.seatsD, halfD, List.length_map, Bool.and_eq_true, decide_eq_true_eq, List.all_eq_true]
  refine ⟨h.len, fun d hd => ?_⟩
  obtain ⟨r, hr, rfl⟩ := List.mem_map.mp hd
  exact (h.all r hr).rowD
structure Com where
  gs : List Int
  k : Int
abbrev Com.enc (c : Com) : PyData := .tuple [itup c.gs, .int c.k]
structure Com.Ok (s : Shop) (c : Com) : Prop where
  g : (c.gs.length : Int) ≤ s.c1
  z : ∀ x ∈ c.gs, x ∈ s.sizes
  k0 : 0 ≤ c.k
  k1 : c.k ≤ s.c2
section
variable {P : Program} {w : World} {K : PySem.W.Frag} [Tb K] {mg : Str → Option Value} {base : Heap}
/-! ### ranges, seat rules drawn -/
abbrev spRange : ASp := fun as Ω P => ∃ (Ω0 : AH) (p : Addr) (m a b c : Int), as = [.ptr p, .dat (.int m)] ∧ Ω = put Ω0 p (deckL a b c) ∧ 0 ≤ m ∧ m ≤ 9 ∧ ∀ lo hi a' b' c', 0 ≤ lo → lo ≤ hi → hi ≤ 9 → P (.dat (rng lo hi)) (put Ω0 p (deckL a' b' c'))
theorem ok_range (T : Top K mg) : FnOk P w K mg base CX0 2 T.f__law_range T.d__law_range ["_law_deck_here", "_law_most"] (spA K spRange) := by
  have G__law_draw : FnOk P w K mg base CX0 1 T.f__law_draw T.d__law_draw ["_law_deck_here", "_law_many"] (spA K spDraw) := ok_draw T
  refine fnA_ok T.D__law_range.F sc__law_range (fun as Ω P ⟨Ω0, p, m, a, b, c, e, _⟩ => by subst e; rfl) (fun cdv A outer s H E hr => ?_)
  refine ⟨_, (pss_cons (ps_par (i := 2) (j := 3) rfl sc__law_range.nd rfl rfl (by decide) rfl rfl (pa_cons (pe_call G__law_draw (hr.mono (by omega)) rfl T.D__law_draw.g T.D__law_draw.F.kp T.D__law_draw.b .nil pass0 (pa_cons (pv 0) (pa_cons (pe_op op_add (pv 1) pe_int) pa_nil))) (pa_cons (pe_call G__law_draw (hr.mono (by omega)) rfl T.D__law_draw.g T.D__law_draw.F.kp T.D__law_draw.b .nil pass0 (pa_cons (pv 0) (pa_cons (pe_op op_add (pv 1) pe_int) pa_nil))) pa_nil)) (by rfl))
    (pss_one (ps_ret (pe_ix (Dat.ixL (K := K) rfl) (pe_lst (pa_cons (pe_tup (pa_cons pe_int (pa_cons pe_int pa_nil))) (pa_cons (pe_tup (pa_cons pe_int (pa_cons pe_int pa_nil))) (pa_cons (pe_tup (pa_cons (pv 2) (pa_cons pe_int pa_nil))) (pa_cons (pe_tup (pa_cons pe_int (pa_cons (pv 2) pa_nil))) (pa_cons (pe_tup (pa_cons (pv 2) (pa_cons (pv 2) pa_nil))) (pa_cons (pe_tup (pa_cons (pe_callB (Dat.cl_min2 rfl) rfl T.b_min bt_min (pa_cons (pv 2) (pa_cons (pv 3) pa_nil))) (pa_cons (pe_callB (Dat.cl_max2 rfl) rfl T.b_max bt_max (pa_cons (pv 2) (pa_cons (pv 3) pa_nil))) pa_nil))) pa_nil))))))) (pe_call G__law_draw (hr.mono (by omega)) rfl T.D__law_draw.g T.D__law_draw.F.kp T.D__law_draw.b .nil pass0 (pa_cons (pv 0) (pa_cons pe_int pa_nil))) (fun _ _ => rfl))))), ?_⟩
  rintro as Ω P ⟨Ω0, p, m, a, b, c, rfl, rfl, m0, m9, h⟩
  refine s_seq (s_par (a_cons (e_draw rfl (e_op (e_var rfl (e_int (r_I0i ⟨_, a, b, c, rfl, rfl, by omega, by omega, fun x a b c x0 x1 => ?_⟩)))))))
  refine a_cons (e_draw rfl (e_op (e_var rfl (e_int (r_I0i ⟨_, a, b, c, rfl, rfl, by omega, by omega, fun y a b c y0 y1 => a_nil ⟨_, _, rfl, ?_⟩⟩)))))
  refine s_ret (e_op (e_lstD (a_cons (e_tupD (a_cons (e_int (a_cons (e_int (a_nil ⟨[.int 0, .int 9], .cons (.cons .nil), rfl, ?_⟩)))))))))
  refine a_cons (e_tupD (a_cons (e_int (a_cons (e_int (a_nil ⟨[.int 0, .int 9], .cons (.cons .nil), rfl, ?_⟩))))))
  refine a_cons (e_tupD (a_cons (e_var rfl (a_cons (e_int (a_nil ⟨[.int x, .int 9], .cons (.cons .nil), rfl, ?_⟩))))))
  refine a_cons (e_tupD (a_cons (e_int (a_cons (e_var rfl (a_nil ⟨[.int 0, .int x], .cons (.cons .nil), rfl, ?_⟩))))))
  refine a_cons (e_tupD (a_cons (e_var rfl (a_cons (e_var rfl (a_nil ⟨[.int x, .int x], .cons (.cons .nil), rfl, ?_⟩))))))
  refine a_cons (e_tupD (a_cons (e_cb (a_cons (e_var rfl (a_cons (e_var rfl (a_nil (c_min2 ?_)))))))))
  refine a_cons (e_cb (a_cons (e_var rfl (a_cons (e_var rfl (a_nil (c_max2 (a_nil ⟨_, .cons (.cons .nil), rfl, a_nil ⟨_, .cons (.cons (.cons (.cons (.cons (.cons .nil))))), rfl, ?_⟩⟩))))))))
  refine e_drawN rfl (by decide) (by decide) fun v a b c v0 v1 => r_ixL_any v0 v1 fun d hd => ?_
  simp only [List.mem_cons, List.not_mem_nil, or_false] at hd
  rcases hd with rfl | rfl | rfl | rfl | rfl | rfl
  · exact h 0 9 a b c (by decide) (by decide) (by decide)
  · exact h 0 9 a b c (by decide) (by decide) (by decide)
  · exact h x 9 a b c (by omega) (by omega) (by omega)
  · exact h 0 x a b c (by omega) (by omega) (by omega)
  · exact h x x a b c (by omega) (by omega) (by omega)
  · refine h _ _ a b c ?_ ?_ ?_
    all_goals repeat' split
    all_goals omega
abbrev spSeats : ASp := fun as Ω P => ∃ (Ω0 : AH) (p : Addr) (m : Int) (a b c : Int), as = [.ptr p, .dat (.int m), .dat (.bool true)] ∧ Ω = put Ω0 p (deckL a b c) ∧ 1 ≤ m ∧ m ≤ 3 ∧ ∀ rs a' b' c', RsOk rs → P (.dat (rules rs)) (put Ω0 p (deckL a' b' c'))
theorem ok_seats (T : Top K mg) : FnOk P w K mg base CX0 3 T.f__law_seats T.d__law_seats ["_law_deck_here", "_law_moods", "_law_deaf"] (spA K spSeats) := by
  have G__law_draw : FnOk P w K mg base CX0 1 T.f__law_draw T.d__law_draw ["_law_deck_here", "_law_many"] (spA K spDraw) := ok_draw T
  have G__law_range : FnOk P w K mg base CX0 2 T.f__law_range T.d__law_range ["_law_deck_here", "_law_most"] (spA K spRange) := ok_range T
  refine fnA_ok T.D__law_seats.F sc__law_seats (fun as Ω P ⟨Ω0, p, m, a, b, c, e, _⟩ => by subst e; rfl) (fun cdv A outer s H E hr => ?_)
  refine ⟨_, (pss_cons (ps_set (i := 3) sc__law_seats.nd rfl (.inl rfl) (pe_lst pa_nil))
    (pss_cons (ps_for PassesOwn.never rfl (pi_range1 rfl T.b_range (pa_cons (pe_call G__law_draw (hr.mono (by omega)) rfl T.D__law_draw.g T.D__law_draw.F.kp T.D__law_draw.b .nil pass0 (pa_cons (pv 0) (pa_cons (pe_ix (Dat.ixL (K := K) rfl) (pe_lst (pa_cons pe_int (pa_cons pe_int (pa_cons pe_int pa_nil)))) (pe_call G__law_draw (hr.mono (by omega)) rfl T.D__law_draw.g T.D__law_draw.F.kp T.D__law_draw.b .nil pass0 (pa_cons (pv 0) (pa_cons pe_int pa_nil))) (fun _ _ => rfl)) pa_nil))) pa_nil)) (pg_name (i := 4) sc__law_seats.nd rfl (.inl rfl))
      (pss_cons (ps_set (i := 5) sc__law_seats.nd rfl (.inl rfl) (pe_ix (Dat.ixL (K := K) rfl) (pe_lst (pa_cons pe_str (pa_cons pe_str (pa_cons pe_str (pa_cons pe_str (pa_cons pe_str pa_nil)))))) (pe_call G__law_draw (hr.mono (by omega)) rfl T.D__law_draw.g T.D__law_draw.F.kp T.D__law_draw.b .nil pass0 (pa_cons (pv 0) (pa_cons pe_int pa_nil))) (fun _ _ => rfl)))
      (pss_cons (ps_set (i := 6) sc__law_seats.nd rfl (.inl rfl) (pe_tup (pa_cons (pe_call G__law_range (hr.mono (by omega)) rfl T.D__law_range.g T.D__law_range.F.kp T.D__law_range.b .nil pass0 (pa_cons (pv 0) (pa_cons pe_int pa_nil))) (pa_cons (pe_call G__law_range (hr.mono (by omega)) rfl T.D__law_range.g T.D__law_range.F.kp T.D__law_range.b .nil pass0 (pa_cons (pv 0) (pa_cons pe_int pa_nil))) (pa_cons (pe_call G__law_range (hr.mono (by omega)) rfl T.D__law_range.g T.D__law_range.F.kp T.D__law_range.b .nil pass0 (pa_cons (pv 0) (pa_cons pe_int pa_nil))) (pa_cons (pe_ifExp (pt_val (pv 2)) (pe_tup (pa_cons pe_int (pa_cons pe_int pa_nil))) (pe_call G__law_range (hr.mono (by omega)) rfl T.D__law_range.g T.D__law_range.F.kp T.D__law_range.b .nil pass0 (pa_cons (pv 0) (pa_cons pe_int pa_nil)))) pa_nil))))))
      (pss_one (ps_expr (Dat.appQ (K := K) rfl (pv 3) (pa_cons (pe_op (Dat.catT (K := K) rfl) (pe_op (Dat.catT (K := K) rfl) (pe_tup (pa_cons (pe_call G__law_draw (hr.mono (by omega)) rfl T.D__law_draw.g T.D__law_draw.F.kp T.D__law_draw.b .nil pass0 (pa_cons (pv 0) (pa_cons (pv 1) pa_nil))) pa_nil)) (pv 6)) (pe_tup (pa_cons (pv 5) (pa_cons (pe_call G__law_draw (hr.mono (by omega)) rfl T.D__law_draw.g T.D__law_draw.F.kp T.D__law_draw.b .nil pass0 (pa_cons (pv 0) (pa_cons (pv 1) pa_nil))) pa_nil)))) pa_nil)))))))
    (pss_one (ps_ret (Dat.pe_tupleK (K := K) rfl rfl T.b_tuple (pv 3)))))), ?_⟩
  rintro as Ω P ⟨Ω0, p, m, a, b, c, rfl, rfl, m1, m3, h⟩
  refine s_seq (s_asg (e_lstP (a_nil ⟨by simp, fun f nf => ?_⟩)))
  have ne : f ≠ p := fun e => by rw [e, put_same] at nf; cases nf
  rw [put_ne ne] at nf
  rw [put_comm ne.symm]
  refine s_seqM (fun Γ' Ω' => ∃ (rs : List Rw) (x y z : Option Av) (a b c : Int), RsOk rs ∧ Γ' = [some (.ptr p), some (.dat (.int m)), some (.dat (.bool true)), some (.ptr f), x, y, z] ∧ Ω' = put (put Ω0 f ((rs.map Rw.enc).map .dat)) p (deckL a b c)) ?_ ?_
  · refine s_for (fun as i Γ' Ω' => as.length ≤ 6 ∧ ∃ (rs : List Rw) (x y z : Option Av) (a b c : Int), rs.length = i ∧ (∀ r ∈ rs, r.Ok) ∧ Γ' = [some (.ptr p), some (.dat (.int m)), some (.dat (.bool true)), some (.ptr f), x, y, z] ∧ Ω' = put (put Ω0 f ((rs.map Rw.enc).map .dat)) p (deckL a b c)) ?_
    refine i_rng1 (a_cons (e_draw rfl (e_op (e_lits [4, 5, 7] (e_drawN rfl (by decide) (by decide) fun v a b c v0 v1 => r_ixL_ints 4 7 rfl (by decide) v0 v1 fun n n0 n1 => ⟨n, a, b, c, rfl, rfl, by omega, by omega, fun t a b c t0 t1 => a_nil ⟨t, rfl, ⟨by omega, by omega⟩, ⟨⟨?_, [], none, none, none, a, b, c, rfl, nofun, rfl, rfl⟩, ?_, ?_⟩⟩⟩)))))
    · unfold rngA
      rw [List.length_map, List.length_range]
      omega
    · rintro i it Γ' Ω' hit ⟨hl, rs, x, y, z, a, b, c, hd, hr, rfl, rfl⟩
      have hi := (List.getElem?_eq_some_iff.mp hit).1
      refine g_name (s_seq (s_asg (e_op (e_lstD (a_cons (e_str (a_cons (e_str (a_cons (e_str (a_cons (e_str (a_cons (e_str (a_nil ⟨_, .cons (.cons (.cons (.cons (.cons .nil)))), rfl, ?_⟩)))))))))))))))
      refine e_drawN rfl (by decide) (by decide) fun v a b c v0 v1 => r_ixL_any v0 v1 fun dd hdd => ?_
      have edd : ∃ x : Deed, dd = .str x.str := by
        simp only [List.mem_cons, List.not_mem_nil, or_false] at hdd
        rcases hdd with rfl | rfl | rfl | rfl | rfl
        · exact ⟨.group, rfl⟩
        · exact ⟨.group, rfl⟩
        · exact ⟨.single, rfl⟩
        · exact ⟨.single, rfl⟩
        · exact ⟨.go, rfl⟩
      obtain ⟨wd, rfl⟩ := edd
      refine s_seq (s_asg (e_tupD ?_))
      refine a_cons (e_call (a_cons (e_var rfl (a_cons (e_int (a_nil ⟨_, p, 4, a, b, c, rfl, rfl, by decide, by decide, fun l1 g1 a b c p1 p2 p3 => ?_⟩))))))
      refine a_cons (e_call (a_cons (e_var rfl (a_cons (e_int (a_nil ⟨_, p, 4, a, b, c, rfl, rfl, by decide, by decide, fun l2 g2 a b c q1 q2 q3 => ?_⟩))))))
      refine a_cons (e_call (a_cons (e_var rfl (a_cons (e_int (a_nil ⟨_, p, 2, a, b, c, rfl, rfl, by decide, by decide, fun l3 g3 a b c r1 r2 r3 => ?_⟩))))))
      refine a_cons (e_if (t_test (e_var rfl ⟨true, rfl, fun _ => ?_, nofun⟩)))
      refine e_tupD (a_cons (e_int (a_cons (e_int (a_nil ⟨_, .cons (.cons .nil), rfl, ?_⟩)))))
      refine a_nil ⟨_, .cons (.cons (.cons (.cons .nil))), rfl, ?_⟩
      refine s_drop (e_app (e_var rfl ⟨f, rfl, ⟨_, by rw [put_ne ne, put_same]⟩, ?_⟩))
      refine a_cons (e_op (e_op (e_tupD (a_cons (e_draw rfl (e_var rfl ⟨m, a, b, c, rfl, rfl, by omega, by omega, fun u a b c u0 u1 => a_nil ⟨_, .cons .nil, rfl, e_var rfl (r_catT (by simp) ?_)⟩⟩))))))
      refine e_tupD (a_cons (e_var rfl (a_cons (e_draw rfl (e_var rfl ⟨m, a, b, c, rfl, rfl, by omega, by omega, fun o a b c o0 o1 => a_nil ⟨_, .cons (.cons .nil), rfl, r_catT (by simp) (a_nil ⟨_, _, rfl, by rw [put_ne ne, put_same], by rw [List.length_map, List.length_map]; omega, ?_⟩)⟩⟩)))))
      refine ⟨hl, rs ++ [⟨u, (l1, g1), (l2, g2), (l3, g3), (0, 9), wd, o⟩], _, _, _, a, b, c, by rw [List.length_append, hd]; rfl, fun r hr' => ?_, rfl, ?_⟩
      · rcases List.mem_append.mp hr' with hr' | hr'
        · exact hr r hr'
        · rw [List.mem_singleton] at hr'
          subst hr'
          exact ⟨u0, by show u ≤ 2; omega, ⟨p1, p2, p3⟩, ⟨q1, q2, q3⟩, ⟨r1, r2, r3⟩, rfl, o0, by show o ≤ 2; omega⟩
      · rw [put_comm ne.symm, put_put, List.map_append, List.map_append]
        rfl
    · rintro Γ' Ω' ⟨hl, rs, x, y, z, a, b, c, hd, hr, rfl, rfl⟩
      exact ⟨rs, x, y, z, a, b, c, ⟨by omega, hr⟩, rfl, rfl⟩
  rintro Γ' Ω' ⟨rs, x, y, z, a, b, c, hr, rfl, rfl⟩
  refine s_ret (e_then (e_var rfl (r_tupP (by rw [put_ne ne, put_same]) ?_)))
  rw [put_comm ne, del_put (by rw [put_ne ne]; exact nf)]
  exact h _ _ _ _ hr
/-! ### a row of comers drawn -/
abbrev spRow1 : ASp := fun as Ω P => ∃ (Ω0 : AH) (p : Addr) (s : Shop) (m : Int) (a b c : Int), as = [.ptr p, .dat s.enc, .dat (.int m)] ∧ Ω = put Ω0 p (deckL a b c) ∧ s.Ok ∧ 0 ≤ m ∧ m ≤ 200 ∧ ∀ (cs : List Com) a' b' c', cs.length ≤ 200 → (∀ c ∈ cs, c.Ok s) → P (.dat (.list (cs.map Com.enc))) (put Ω0 p (deckL a' b' c'))
theorem ok_row (T : Top K mg) : FnOk P w K mg base CX0 2 T.f__law_row T.d__law_row ["_law_deck_here", "_law_shop", "_law_many"] (spA K spRow1) := by
  have G__law_draw : FnOk P w K mg base CX0 1 T.f__law_draw T.d__law_draw ["_law_deck_here", "_law_many"] (spA K spDraw) := ok_draw T
  refine fnA_ok T.D__law_row.F sc__law_row (fun as Ω P ⟨Ω0, p, s, m, a, b, c, e, _⟩ => by subst e; rfl) (fun cdv A outer s H E hr => ?_)
  refine ⟨_, (pss_cons (ps_set (i := 3) sc__law_row.nd rfl (.inl rfl) (pe_lst pa_nil))
    (pss_cons (ps_for PassesOwn.never rfl (pi_range1 rfl T.b_range (pa_cons (pv 2) pa_nil)) (pg_name (i := 4) sc__law_row.nd rfl (.inl rfl))
      (pss_cons (ps_set (i := 5) sc__law_row.nd rfl (.inl rfl) (pe_tup pa_nil))
      (pss_cons (ps_if (PW.pt (pw_and (pt_cmpR op_gt (pe_ix (Dat.ixT (K := K) rfl) (pe_ix (Dat.ixT (K := K) rfl) (pv 1) pe_int (fun _ _ => rfl)) pe_int (fun _ _ => rfl)) pe_int (nomark _)) (pw_and1 (pt_cmpR op_gt (pe_call G__law_draw (hr.mono (by omega)) rfl T.D__law_draw.g T.D__law_draw.F.kp T.D__law_draw.b .nil pass0 (pa_cons (pv 0) (pa_cons pe_int pa_nil))) pe_int (nomark _)))))
        (pss_one (ps_set (i := 5) sc__law_row.nd rfl (.inl rfl) (pe_tup (pa_cons (pe_ix (Dat.ixT (K := K) rfl) (pe_ix (Dat.ixT (K := K) rfl) (pv 1) pe_int (fun _ _ => rfl)) (pe_call G__law_draw (hr.mono (by omega)) rfl T.D__law_draw.g T.D__law_draw.F.kp T.D__law_draw.b .nil pass0 (pa_cons (pv 0) (pa_cons (pe_callB (Dat.lenQ (K := K) rfl) rfl T.b_len bt_len (pa_cons (pe_ix (Dat.ixT (K := K) rfl) (pv 1) pe_int (fun _ _ => rfl)) pa_nil)) pa_nil))) (fun _ _ => rfl)) pa_nil))))
        pss_nil)
      (pss_one (ps_expr (Dat.appQ (K := K) rfl (pv 3) (pa_cons (pe_tup (pa_cons (pv 5) (pa_cons (pe_call G__law_draw (hr.mono (by omega)) rfl T.D__law_draw.g T.D__law_draw.F.kp T.D__law_draw.b .nil pass0 (pa_cons (pv 0) (pa_cons (pe_op op_add (pe_ix (Dat.ixT (K := K) rfl) (pe_ix (Dat.ixT (K := K) rfl) (pv 1) pe_int (fun _ _ => rfl)) pe_int (fun _ _ => rfl)) pe_int) pa_nil))) pa_nil))) pa_nil)))))))
    (pss_one (ps_ret (pv 3))))), ?_⟩
  rintro as Ω P ⟨Ω0, p, s, m, a, b, c, rfl, rfl, so, m0, m2, h⟩
  refine s_seq (s_asg (e_lstP (a_nil ⟨by simp, fun f nf => ?_⟩)))
  have ne : f ≠ p := fun e => by rw [e, put_same] at nf; cases nf
  rw [put_ne ne] at nf
  rw [put_comm ne.symm]
  refine s_seqM (fun Γ' Ω' => ∃ (cs : List Com) (x y : Option Av) (a b c : Int), cs.length ≤ 200 ∧ (∀ c ∈ cs, c.Ok s) ∧ Γ' = [some (.ptr p), some (.dat s.enc), some (.dat (.int m)), some (.ptr f), x, y] ∧ Ω' = put (put Ω0 f ((cs.map Com.enc).map .dat)) p (deckL a b c)) ?_ ?_
  · refine s_for (fun as i Γ' Ω' => as.length ≤ 200 ∧ ∃ (cs : List Com) (x y : Option Av) (a b c : Int), cs.length = i ∧ (∀ c ∈ cs, c.Ok s) ∧ Γ' = [some (.ptr p), some (.dat s.enc), some (.dat (.int m)), some (.ptr f), x, y] ∧ Ω' = put (put Ω0 f ((cs.map Com.enc).map .dat)) p (deckL a b c)) ?_
    refine i_rng1 (a_cons (e_var rfl (a_nil ⟨m, rfl, ⟨by omega, by omega⟩, ⟨⟨?_, [], none, none, a, b, c, rfl, nofun, rfl, rfl⟩, ?_, ?_⟩⟩)))
    · unfold rngA
      rw [List.length_map, List.length_range]
      omega
    · rintro i it Γ' Ω' hit ⟨hl, cs, x, y, a, b, c, hd, hc, rfl, rfl⟩
      have hi := (List.getElem?_eq_some_iff.mp hit).1
      refine g_name (s_seq (s_asg (e_tupD (a_nil ⟨[], .nil, rfl, ?_⟩))))
      refine s_seqM (fun Γ' Ω' => ∃ (gs : List Int) (a b c : Int), (gs.length : Int) ≤ s.c1 ∧ (∀ x ∈ gs, x ∈ s.sizes) ∧ Γ' = [some (.ptr p), some (.dat s.enc), some (.dat (.int m)), some (.ptr f), some it, some (.dat (itup gs))] ∧ Ω' = put (put Ω0 f ((cs.map Com.enc).map .dat)) p (deckL a b c)) ?_ ?_
      · have none' : ∀ a b c, (fun Γ' Ω' => ∃ (gs : List Int) (a b c : Int), (gs.length : Int) ≤ s.c1 ∧ (∀ x ∈ gs, x ∈ s.sizes) ∧ Γ' = [some (.ptr p), some (.dat s.enc), some (.dat (.int m)), some (.ptr f), some it, some (.dat (itup gs))] ∧ Ω' = put (put Ω0 f ((cs.map Com.enc).map .dat)) p (deckL a b c)) [some (.ptr p), some (.dat s.enc), some (.dat (.int m)), some (.ptr f), some it, some (.dat (.tuple []))] (put (put Ω0 f ((cs.map Com.enc).map .dat)) p (deckL a b c)) := fun a b c => ⟨[], a, b, c, so.c10, nofun, rfl, rfl⟩
        refine s_if (t_and (t_test (e_op (e_op (e_op (e_var rfl (e_int (r_ixT rfl (e_int (r_ixT rfl (e_int (r_I0b ⟨_, rfl, fun h1 => ?_, fun h1 => ⟨nofun, fun _ => s_next (none' a b c)⟩⟩))))))))))))
        refine t_test (e_op (e_drawN rfl (by decide) (by decide) fun v a b c v0 v1 => e_int (r_I0b ⟨_, rfl, fun h2 => ?_, fun h2 => s_next (none' a b c)⟩)))
        refine s_asg (e_tupD (a_cons (e_op (e_op (e_var rfl (e_int (r_ixT rfl (e_draw rfl (e_cb (a_cons (e_op (e_var rfl (e_int (r_ixT rfl (a_nil (c_lenT ⟨_, a, b, c, rfl, rfl, by have := so.z1; rw [List.length_map]; omega, by have := so.z2; rw [List.length_map]; omega, fun v a b c v0 v1 => r_ixT_any v0 v1 fun d hd => ?_⟩))))))))))))))))
        obtain ⟨z, hz, rfl⟩ := List.mem_map.mp hd
        have h1' := of_decide_eq_true h1
        refine a_nil ⟨_, .cons .nil, rfl, [z], a, b, c, by simp; omega, fun x hx => ?_, rfl, rfl⟩
        rw [List.mem_singleton.mp hx]
        exact hz
      rintro Γ' Ω' ⟨gs, a, b, c, hg, hz, rfl, rfl⟩
      refine s_drop (e_app (e_var rfl ⟨f, rfl, ⟨_, by rw [put_ne ne, put_same]⟩, ?_⟩))
      have := so.c20
      have := so.c22
      refine a_cons (e_tupD (a_cons (e_var rfl (a_cons (e_draw rfl (e_op (e_op (e_op (e_var rfl (e_int (r_ixT rfl (e_int (r_ixT rfl (e_int (r_I0i ⟨_, a, b, c, rfl, rfl, by omega, by omega, fun k a b c k0 k1 => a_nil ⟨_, .cons (.cons .nil), rfl, a_nil ⟨_, _, rfl, by rw [put_ne ne, put_same], by rw [List.length_map, List.length_map]; omega, ?_⟩⟩⟩)))))))))))))))
      refine ⟨hl, cs ++ [⟨gs, k⟩], _, _, a, b, c, by rw [List.length_append, hd]; rfl, fun r hr' => ?_, rfl, ?_⟩
      · rcases List.mem_append.mp hr' with hr' | hr'
        · exact hc r hr'
        · rw [List.mem_singleton] at hr'
          subst hr'
          exact ⟨hg, hz, k0, by show k ≤ s.c2; omega⟩
      · rw [put_comm ne.symm, put_put, List.map_append, List.map_append]
        rfl
    · rintro Γ' Ω' ⟨hl, cs, x, y, a, b, c, hd, hc, rfl, rfl⟩
      exact ⟨cs, x, y, a, b, c, by omega, hc, rfl, rfl⟩
  rintro Γ' Ω' ⟨cs, x, y, a, b, c, hl, hc, rfl, rfl⟩
  refine s_frz 3 rfl (by rw [put_ne ne, put_same]) ?_
  rw [put_comm ne, del_put (by rw [put_ne ne]; exact nf)]
  exact s_ret (e_var rfl (h _ _ _ _ hl hc))
end
end K20

set_option Elab.async false
set_option linter.all false
set_option maxRecDepth 100000
set_option maxHeartbeats 1000000
namespace K20
open PySem PySem.Spec PyProof.Rows L2 Dat LamX NdefX Clo
local macro_rules | `(tactic| trivial) => `(tactic| (first
  | (with_reducible refine s_seq ?_)
  | (with_reducible refine s_asg ?_)
  | (with_reducible refine s_ret ?_)
  | (with_reducible refine s_drop ?_)
  | (with_reducible refine s_next ?_)
  | (with_reducible refine s_retN ?_)
  | (with_reducible refine s_brk ?_)
  | (with_reducible refine s_cont ?_)
  | (with_reducible refine s_if ?_)
  | (with_reducible refine e_int ?_)
  | (with_reducible refine e_str ?_)
  | (with_reducible refine e_bl ?_)
  | (with_reducible refine e_non ?_)
  | (with_reducible refine e_ty ?_)
  | (with_reducible refine e_tupD ?_)
  | (with_reducible refine e_lstD ?_)
  | (with_reducible refine e_op ?_)
  | (with_reducible refine e_un ?_)
  | (with_reducible refine e_then ?_)
  | (with_reducible refine e_cb ?_)
  | (with_reducible refine e_call ?_)
  | (with_reducible refine e_if ?_)
  | (with_reducible refine e_chain ?_)
  | (with_reducible refine e_andV ?_)
  | (with_reducible refine e_orV ?_)
  | (with_reducible refine e_notV ?_)
  | (with_reducible refine a_cons ?_)
  | (with_reducible refine a_nil ?_)
  | (with_reducible refine t_test ?_)
  | (with_reducible refine t_B ?_)
  | (with_reducible refine t_not ?_)
  | (with_reducible refine t_and ?_)
  | (with_reducible refine t_or ?_)
  | (with_reducible refine r_I0i ?_)
  | (with_reducible refine r_I0b ?_)
  | (with_reducible refine r_neg ?_)
  | (with_reducible refine r_isN ?_)
  | (with_reducible refine r_notN ?_)
  | (with_reducible refine c_lenT ?_)
  | (with_reducible refine c_lenL ?_)
  | (with_reducible refine c_intI ?_)
  | (with_reducible refine c_intB ?_)
  | (with_reducible refine c_max2 ?_)
  | (with_reducible refine c_min2 ?_)
  | (with_reducible refine c_abs ?_)
  | (with_reducible refine r_tupL ?_)
  | (with_reducible refine r_tupT ?_)
  | (with_reducible refine c_allM ?_)
  | ((with_reducible apply e_var); (exact rfl))
  | ((with_reducible refine r_eq ?_ ?_); (exact rfl))
  | ((with_reducible refine r_ne ?_ ?_); (exact rfl))
  | (with_reducible refine c_isi kit_int ?_)
  | (with_reducible refine c_isi kit_bool ?_)
  | (with_reducible refine c_isi kit_tuple ?_)
  | (with_reducible refine c_isi kit_list ?_)
  | (with_reducible refine c_isi kit_str ?_)
  | ((with_reducible apply r_ixT); (exact rfl))
  | ((with_reducible apply dats_pack); (iterate 40 (first | exact Dats.nil | apply Dats.cons | skip)); (exact rfl))
  | (with_reducible refine s_asgG ?_) | (with_reducible refine g_name ?_) | ((with_reducible refine g_tup ?_ ?_); (exact rfl)) | (refine gs_nil ?_) | (refine gs_cons ?_) | (with_reducible refine ⟨rfl, ?_⟩)
  | (refine ⟨_, rfl, ?_⟩) | (refine ⟨_, _, rfl, ?_⟩) | (refine ⟨_, _, _, rfl, ?_⟩) | (with_reducible refine ⟨fun _ => ?_, fun _ => ?_⟩) | fail))
section
variable {P : Program} {w : World} {K : PySem.W.Frag} [Tb K] {mg : Str → Option Value} {base : Heap}
abbrev spRs (b : PyData) : ASp := fun as Ω P => ∃ rs, as = [.dat (rules rs)] ∧ RsOk rs ∧ P (.dat b) Ω
theorem ok_is_deaf (T : Top K mg) : FnOk P w K mg base CX0 1 T.f_is_deaf T.d_is_deaf ["rule"] (spA K (spRs (.bool true))) := by
  refine fnA_ok T.D_is_deaf.F sc_is_deaf (fun as Ω P ⟨rs, e, _⟩ => by subst e; rfl) (fun cdv A outer s H E hr => ?_)
  refine ⟨_, (pss_one (ps_ret (pe_callB (Dat.allQ (K := K) rfl rfl) rfl T.b_all bt_all (pa_cons (pe_lc (own := [("row", 1)]) (g := (gName 1)) (tt := tYes) rfl sc_is_deaf.nd (Dat.piT (K := K) rfl (pv 0)) (blkOk_by (N := N_is_deaf) (sc := defScope s_is_deaf) (by decide +kernel)) (fun _ _ _ _ _ => (pg_name (i := 1) sc_is_deaf.nd rfl (Or.inl rfl))) (fun _ _ _ _ _ => pts_nil) (fun _ _ _ _ _ => (pe_cmpR (Dat.eqDQ (K := K) rfl (hu64 hr)) (pe_ix (Dat.ixT (K := K) rfl) (pv 1) (pe_glob (v := .int 4) rfl T.c_HEARD ⟨_, rfl⟩) (fun _ _ => rfl)) (pe_glob (v := .ref T.p_DEAF) rfl T.c_DEAF rfl) (nomark _)))) pa_nil)))), ?_⟩
  rintro as Ω P ⟨rs, rfl, ro, h⟩
  refine s_ret (e_cb (a_cons (e_lcM (rs.map Rw.enc) .dat (fun _ => .bool true) (gn_name (by decide)) (by have := ro.len; rw [List.length_map]; omega) ?_)))
  refine i_tup (e_var rfl ⟨_, rfl, rfl, fun x Ω' hx _ => g_name ⟨rfl, ?_⟩, ?_⟩)
  · obtain ⟨r, hr, rfl⟩ := List.mem_map.mp hx
    refine e_op (e_op (e_var rfl (e_int (r_ixT rfl (e_K T.v_DEAF (r_eqD rfl rfl ⟨rfl, ?_⟩))))))
    have := (ro.all r hr).o
    rw [this]
    rfl
  · refine a_nil (c_allM ?_)
    have : ((rs.map Rw.enc).all fun _ => true) = true := List.all_eq_true.mpr fun _ _ => rfl
    rw [this]
    exact h
theorem ok_check_deaf (T : Top K mg) : FnOk P w K mg base CX0 2 T.f_check_deaf T.d_check_deaf ["rule"] (spA K (spRs .none)) := by
  have G_is_deaf : FnOk P w K mg base CX0 1 T.f_is_deaf T.d_is_deaf ["rule"] (spA K (spRs (.bool true))) := ok_is_deaf T
  refine fnA_ok T.D_check_deaf.F sc_check_deaf (fun as Ω P ⟨rs, e, _⟩ => by subst e; rfl) (fun cdv A outer s H E hr => ?_)
  refine ⟨_, (pss_one (ps_if (pt_not (pt_val (pe_call G_is_deaf (hr.mono (by omega)) rfl T.D_is_deaf.g T.D_is_deaf.F.kp T.D_is_deaf.b .nil pass0 (pa_cons (pv 0) pa_nil))))
      (pss_one ps_dead)
      pss_nil)), ?_⟩
  rintro as Ω P ⟨rs, rfl, ro, h⟩
  refine s_ifB (b := !true) (t_notB (t_ofB ?_)) (fun z => by cases z) fun _ => s_next h
  exact e_call (a_cons (e_var rfl (a_nil ⟨rs, rfl, ro, rfl, rfl⟩)))
theorem ok_check_seats (T : Top K mg) : FnOk P w K mg base CX0 7 T.f_check_seats T.d_check_seats ["thing"] (spA K (spRs .none)) := by
  have G_is_seats : FnOk P w K mg base CX0 6 T.f_is_seats T.d_is_seats ["thing"] (spA K (spB seatsD)) := ok_is_seats T
  refine fnA_ok T.D_check_seats.F sc_check_seats (fun as Ω P ⟨rs, e, _⟩ => by subst e; rfl) (fun cdv A outer s H E hr => ?_)
  refine ⟨_, (pss_one (ps_if (pt_not (pt_val (pe_call G_is_seats (hr.mono (by omega)) rfl T.D_is_seats.g T.D_is_seats.F.kp T.D_is_seats.b .nil pass0 (pa_cons (pv 0) pa_nil))))
      (pss_one ps_dead)
      pss_nil)), ?_⟩
  rintro as Ω P ⟨rs, rfl, ro, h⟩
  refine s_ifB (b := !true) (t_notB (t_ofB ?_)) (fun z => by cases z) fun _ => s_next h
  exact e_call (a_cons (e_var rfl (a_nil ⟨rules rs, rfl, by rw [ro.seatsD], rfl⟩)))
abbrev spCom : ASp := fun as Ω P => ∃ (s : Shop) (c : Com), as = [.dat s.enc, .dat c.enc] ∧ s.Ok ∧ c.Ok s ∧ P (.dat (.bool true)) Ω
theorem flat_itup : ∀ {ns : List Int}, (ns.map PyData.int).all canFlat = true
  | [] => rfl
  | _ :: r => flat_itup (ns := r)
theorem any_int {ns : List Int} {z : Int} (h : z ∈ ns) : ((ns.map PyData.int).any fun e => PyData.eqv e (.int z)) = true :=
  List.any_eq_true.mpr ⟨.int z, List.mem_map.mpr ⟨z, h, rfl⟩, by simp [PyData.eqv]⟩
theorem ok_is_comers (T : Top K mg) : FnOk P w K mg base CX0 3 T.f_is_comers T.d_is_comers ["setup", "thing"] (spA K spCom) := by
  have G_is_whole : FnOk P w K mg base CX0 1 T.f_is_whole T.d_is_whole ["thing"] (spA K (spB isWh)) := ok_is_whole T
  have G_is_whole_in : FnOk P w K mg base CX0 2 T.f_is_whole_in T.d_is_whole_in ["thing", "low", "high"] (spA K spIn) := ok_is_whole_in T
  have G_is_pair : FnOk P w K mg base CX0 1 T.f_is_pair T.d_is_pair ["thing"] (spA K (spB pairD)) := ok_is_pair T
  refine fnA_ok T.D_is_comers.F sc_is_comers (fun as Ω P ⟨s, c, e, _⟩ => by subst e; rfl) (fun cdv A outer s H E hr => ?_)
  refine ⟨_, (pss_cons (ps_if (pt_not (PW.pt (pw_and (pt_val (pe_call G_is_pair (hr.mono (by omega)) rfl T.D_is_pair.g T.D_is_pair.F.kp T.D_is_pair.b .nil pass0 (pa_cons (pv 1) pa_nil))) (pw_and (pt_val (pe_callB (Dat.isiQ (K := K) rfl) rfl T.b_isinstance bt_isinstance (pa_cons (pe_ix (Dat.ixT (K := K) rfl) (pv 1) pe_int (fun _ _ => rfl)) (pa_cons (pe_bltn (v := .ty "tuple") rfl T.b_tuple bt_tuple rfl) pa_nil)))) (pw_and1 (pt_val (pe_call G_is_whole_in (hr.mono (by omega)) rfl T.D_is_whole_in.g T.D_is_whole_in.F.kp T.D_is_whole_in.b .nil pass0 (pa_cons (pe_ix (Dat.ixT (K := K) rfl) (pv 1) pe_int (fun _ _ => rfl)) (pa_cons pe_int (pa_cons (pe_ix (Dat.ixT (K := K) rfl) (pe_ix (Dat.ixT (K := K) rfl) (pv 0) pe_int (fun _ _ => rfl)) pe_int (fun _ _ => rfl)) pa_nil))))))))))
      (pss_one (ps_ret pe_bl))
      pss_nil)
    (pss_one (ps_ret (pe_and (pe_cmpR op_le (pe_callB (Dat.lenQ (K := K) rfl) rfl T.b_len bt_len (pa_cons (pe_ix (Dat.ixT (K := K) rfl) (pv 1) pe_int (fun _ _ => rfl)) pa_nil)) (pe_ix (Dat.ixT (K := K) rfl) (pe_ix (Dat.ixT (K := K) rfl) (pv 0) pe_int (fun _ _ => rfl)) pe_int (fun _ _ => rfl)) (nomark _)) (pe_one (pe_callB (Dat.allQ (K := K) rfl rfl) rfl T.b_all bt_all (pa_cons (pe_lc (own := [("size", 2)]) (g := (gName 2)) (tt := tYes) rfl sc_is_comers.nd (Dat.piT (K := K) rfl (pe_ix (Dat.ixT (K := K) rfl) (pv 1) pe_int (fun _ _ => rfl))) (blkOk_by (N := N_is_comers) (sc := defScope s_is_comers) (by decide +kernel)) (fun _ _ _ _ _ => (pg_name (i := 2) sc_is_comers.nd rfl (Or.inl rfl))) (fun _ _ _ _ _ => pts_nil) (fun _ _ _ _ _ => (pe_and (pe_call G_is_whole (hr.mono (by omega)) rfl T.D_is_whole.g T.D_is_whole.F.kp T.D_is_whole.b .nil pass0 (pa_cons (pv 2) pa_nil)) (pe_one (pe_cmpR (Dat.inQ (K := K) rfl) (pv 2) (pe_ix (Dat.ixT (K := K) rfl) (pv 0) pe_int (fun _ _ => rfl)) rfl))))) pa_nil))))))), ?_⟩
  rintro as Ω P ⟨s, c, rfl, so, co, h⟩
  refine s_seq (s_ifB (b := !(true && (true && true))) (t_notB (t_andB (t_ofB ?_) fun _ => t_andB (t_ofB ?_) fun _ => t_ofB ?_)) (fun z => by cases z) fun _ => s_next ?_)
  · exact e_call (a_cons (e_var rfl (a_nil ⟨_, rfl, rfl, rfl⟩)))
  · repeat' trivial
  · refine e_call (a_cons (e_op (e_var rfl (e_int (r_ixT rfl (a_cons (e_int (a_cons (e_op (e_op (e_var rfl (e_int (r_ixT rfl (e_int (r_ixT rfl (a_nil ⟨_, _, _, rfl, ?_, rfl⟩))))))))))))))))
    rw [inD_of co.k0 co.k1]
  refine s_retB (b := true && true) (e_andB ?_ fun _ => ?_) h
  · refine e_op (e_cb (a_cons (e_op (e_var rfl (e_int (r_ixT rfl (a_nil (c_lenT (e_op (e_op (e_var rfl (e_int (r_ixT rfl (e_int (r_ixT rfl (r_I0b ⟨?_, rfl⟩))))))))))))))))
    have := co.g
    rw [List.length_map, decide_eq_true this]
  · have := co.g
    have := so.c11
    refine e_cb (a_cons (e_lcM (c.gs.map PyData.int) .dat (fun _ => .bool true) (gn_name (by decide)) (by rw [List.length_map]; omega) ?_))
    refine i_tup (e_op (e_var rfl (e_int (r_ixT rfl ⟨_, rfl, rfl, fun x Ω' hx _ => g_name ⟨rfl, ?_⟩, ?_⟩))))
    · obtain ⟨z, hz, rfl⟩ := List.mem_map.mp hx
      refine EW.mono (P := IsB (true && true) Ω') (e_andB ?_ fun _ => ?_) fun a Ω2 ⟨e1, e2⟩ => ⟨e2, e1⟩
      · exact e_call (a_cons (e_var rfl (a_nil ⟨_, rfl, rfl, rfl⟩)))
      · refine e_op (e_var rfl (e_op (e_var rfl (e_int (r_ixT rfl (r_inT rfl flat_itup ⟨?_, rfl⟩))))))
        rw [any_int (co.z z hz)]
        rfl
    · refine a_nil (c_allM ⟨?_, rfl⟩)
      rw [List.all_eq_true.mpr fun _ _ => rfl]
/-! ### the lambda, rows of comers judged -/
def lamParts : List Stmt → Arguments × Expr × Scope
  | .Assign _ (.Call _ [_, .Lambda p b s _, _] _ _) _ :: _ => (p, b, s)
  | _ => (defArgs s_check_row, .Constant .none 0 ⟨0, 0, 0, 0⟩, defScope s_check_row)
abbrev lamP : Arguments := (lamParts (defBody s_check_row)).1
abbrev lamB : Expr := (lamParts (defBody s_check_row)).2.1
abbrev lamS : Scope := (lamParts (defBody s_check_row)).2.2
theorem sc_lam : NScope ["entry", "setup"] ["entry"] ["setup"] lamS := nscope_by (by decide +kernel)
abbrev lamF (q : Str) (cl : List (Str × Addr)) (c' : Addr) : NF := ⟨"<lambda>", q, lamP, [], lamS, cl, c'⟩
abbrev lsp : LSp := fun cs as Ω P => ∃ (s : Shop) (c : Com), cs = [s.enc] ∧ as = [.dat c.enc] ∧ s.Ok ∧ c.Ok s ∧ P (.dat (.bool true)) Ω
theorem lokC (T : Top K mg) (q : Str) (cl : List (Str × Addr)) (f c' : Addr) : LOk P w K mg base CX0 4 f (lamF q cl c') lamB ["entry"] ["setup"] (spL K lsp) := by
  have G_is_comers : FnOk P w K mg base CX0 3 T.f_is_comers T.d_is_comers ["setup", "thing"] (spA K spCom) := ok_is_comers T
  refine lokA_of (N := ["entry", "setup"]) sc_lam (fun pm ctv us hl => match us, hl with | [_], _ => rfl) (fun cs as Ω P ⟨s, c, e1, e, _⟩ => by subst e; rfl) (fun A outer s H E hr => ?_)
  refine ⟨_, (pe_call G_is_comers hr rfl T.D_is_comers.g T.D_is_comers.F.kp T.D_is_comers.b .nil pass0 (pa_cons (pe_var (i := 1) rfl (Or.inr (Or.inr rfl))) (pa_cons (pe_var (i := 0) rfl (Or.inl rfl)) pa_nil))), ?_⟩
  rintro cs as Ω P ⟨s, c, rfl, rfl, so, co, h⟩
  exact e_call (a_cons (e_var rfl (a_cons (e_var rfl (a_nil ⟨s, c, rfl, so, co, h⟩)))))
abbrev spFault (q : Str) (cl : List (Str × Addr)) : CSp := fun f c' cap as Ω P => ∃ (s : Shop) (cs : List Com) (m : Int), cap.map (·.2) = [s.enc] ∧ as = [.dat (.list (cs.map Com.enc)), .fn f [(f, LamO f (lamF q cl c') lamB), (c', CodeO c' q)] cap, .dat (.int m)] ∧ s.Ok ∧ (∀ c ∈ cs, c.Ok s) ∧
  (cs.length : Int) ≤ m ∧ m ≤ 1000 ∧ P (.dat .none) Ω
theorem ok_fault (T : Top K mg) (q : Str) (cl : List (Str × Addr)) (f c' : Addr) : FnC P w K mg base CX0 5 T.f_fault_in T.d_fault_in ["thing", "fits", "most"] cl ["setup"] (spCl K (spFault q cl) f c') := by
  have HL : LOk P w K mg base CX0 4 f (lamF q cl c') lamB ["entry"] ["setup"] (spL K lsp) := lokC T q cl f c'
  refine fncA_of T.D_fault_in.F sc_fault_in (fun cap cdv A outer s H E hr C0 => ?_)
  refine ⟨_, (pss_cons (ps_if (pt_not (pt_val (pe_callB (Dat.isiQ (K := K) rfl) rfl T.b_isinstance bt_isinstance (pa_cons (pv 0) (pa_cons (pe_bltn (v := .ty "list") rfl T.b_list bt_list rfl) pa_nil)))))
      (pss_one (ps_ret (pe_un un_neg pe_int)))
      pss_nil)
    (pss_cons (ps_for PassesOwn.never rfl (Dat.enumQ (K := K) rfl rfl T.b_enumerate (pa_cons (pe_slice (Dat.slL (K := K) rfl) (pv 0) po_none (po_some (pv 2))) pa_nil)) (Dat.pgT (K := K) (n := 2) rfl rfl (pgs_cons (pg_name (i := 3) sc_fault_in.nd rfl (.inl rfl)) (pgs_cons (pg_name (i := 4) sc_fault_in.nd rfl (.inl rfl)) pgs_nil)))
      (pss_one (ps_if (pt_not (pt_val (pe_held (i := 1) HL C0 rfl (hr.mono (by omega)) (Nat.le_refl _) pass0 rfl (.inl rfl) (pa_cons (pv 4) pa_nil))))
        (pss_one (ps_ret (pv 3)))
        pss_nil)))
    (pss_one (ps_ret (pe_ifExp (pt_cmpR op_gt (pe_callB (Dat.lenQ (K := K) rfl) rfl T.b_len bt_len (pa_cons (pv 0) pa_nil)) (pv 2) (nomark _)) (pv 2) pe_non))))), ?_⟩
  rintro as Ω P ⟨s, cs, m, ecap, rfl, so, co, l1, l2, h⟩
  refine s_seq (s_ifB (b := !true) (t_notB (t_ofB ?_)) (fun z => by cases z) fun _ => s_next ?_)
  · repeat' trivial
  refine s_seqM (fun Γ' Ω' => ∃ x y, Γ' = [some (.dat (.list (cs.map Com.enc))), some (.fn f [(f, LamO f (lamF q cl c') lamB), (c', CodeO c' q)] cap), some (.dat (.int m)), x, y] ∧ Ω' = Ω) ?_ ?_
  · refine s_for (fun as i Γ' Ω' => (∀ a ∈ as, ∃ (i : Int) (c : Com), c ∈ cs ∧ a = .dat (.tuple [.int i, c.enc])) ∧ ∃ x y, Γ' = [some (.dat (.list (cs.map Com.enc))), some (.fn f [(f, LamO f (lamF q cl c') lamB), (c', CodeO c' q)] cap), some (.dat (.int m)), x, y] ∧ Ω' = Ω) ?_
    refine i_enumL (a_cons (e_slL (e_var rfl ⟨_, rfl, o_no (o_some (e_var rfl ⟨_, rfl, a_nil ⟨_, rfl, ⟨fun a ha => ?_, _, _, rfl, rfl⟩, ?_, ?_⟩⟩))⟩)))
    · obtain ⟨i, hi⟩ := List.getElem?_of_mem ha
      obtain ⟨d, hd, rfl⟩ := enumA_at hi
      obtain ⟨c, hc, rfl⟩ := List.mem_map.mp (cutD_mem (List.mem_of_getElem? hd))
      exact ⟨_, c, hc, rfl⟩
    · rintro i it Γ' Ω' hit ⟨hall, x, y, rfl, rfl⟩
      obtain ⟨i, c, hc, rfl⟩ := hall it (List.mem_of_getElem? hit)
      refine g_tup rfl (gs_cons (g_name ⟨rfl, gs_cons (g_name ⟨rfl, gs_nil ?_⟩)⟩))
      refine s_ifB (b := !true) (t_notB (t_ofB ?_)) (fun z => by cases z) fun _ => s_next ⟨hall, _, _, rfl, rfl⟩
      refine e_held (F := lamF q cl c') (body := lamB) (sp := lsp) rfl (a_cons (e_var rfl (a_nil ⟨s, c, ecap, rfl, so, co c hc, rfl, rfl⟩)))
    · rintro Γ' Ω' ⟨hall, x, y, rfl, rfl⟩
      exact ⟨x, y, rfl, rfl⟩
  rintro Γ' Ω' ⟨x, y, rfl, rfl⟩
  refine s_ret (e_if (t_test (e_op (e_cb (a_cons (e_var rfl (a_nil (c_lenL (e_var rfl (r_I0b ⟨_, rfl, fun z => ?_, fun _ => e_non h⟩))))))))))
  have := of_decide_eq_true z
  rw [List.length_map] at this
  omega
abbrev cEnv (L f cw : Addr) : Env := envOfC "check_row" (defScope s_check_row) L f (.ref cw)
abbrev lamQ : Str := (cEnv 0 0 0).qual ++ "<lambda>"
abbrev spChkRow : ASp := fun as Ω P => ∃ (s : Shop) (cs : List Com), as = [.dat s.enc, .dat (.list (cs.map Com.enc)), .dat (.int 200)] ∧ s.Ok ∧ (∀ c ∈ cs, c.Ok s) ∧ cs.length ≤ 200 ∧ P (.dat .none) Ω
theorem ok_check_row (T : Top K mg) {Pw : Addr} (TB : TabB base mg T.cw Pw) (hT : Tb.T (K := K) = [(Pw, lamQ)]) : FnOk P w K mg base CX0 6 T.f_check_row T.d_check_row ["setup", "thing", "most"] (spA K spChkRow) := by
  refine fnA_okC T.D_check_row sc_check_row (fun as Ω P ⟨s, cs, e, _⟩ => by subst e; rfl) (fun A outer s H E hr => ?_)
  have fr1 : ∀ y ∈ lamS.names, y.2 = .free → (defScope s_check_row).names.lookup y.1 = some .cell ∨ (defScope s_check_row).names.lookup y.1 = some .free := ndef_free (fr := ["setup"]) (by decide +kernel)
  have fr2 : ∀ y ∈ (["setup"] : List Str), (y, NameKind.free) ∈ lamS.names := ndef_fr (sc := defScope s_check_row) (by decide +kernel)
  refine ⟨_, (pss_cons (ps_set (i := 3) sc_check_row.nd rfl (.inl rfl) (pe_callC (k := 5) (j := 5) (cl := cloFrom (cEnv s.heap.objs.size T.f_check_row T.cw).cells lamS.names []) (fr := ["setup"]) (js := [0])
    (fun f c' => ok_fault T lamQ (cloFrom (cEnv s.heap.objs.size T.f_check_row T.cw).cells lamS.names []) f c')
    (fun f c' ws vs H Q E h => by
      obtain ⟨F0, Ω, as, P, cap, k0, va, _, ⟨s, cs, m, _, e, _⟩, _⟩ := h
      rw [va.length, e]
      rfl) (fun ok => Caps.made ok fr1 fr2 rfl) hr (Nat.le_refl _) rfl T.D_fault_in.g T.D_fault_in.F.kp T.D_fault_in.b pass0
    (pa_cons (pv 1) (pa_cons (pe_lambda (T := Tb.T (K := K)) TB rfl (by rw [hT]; exact List.mem_singleton.mpr rfl) (fun p hp _ => by rw [hT] at hp; rw [List.mem_singleton.mp hp]; rfl) rfl (fun ok y hy e => (fr1 y hy e).elim (fun z => ok.has _ (.inl z)) fun z => ok.has _ (.inr z))) (pa_cons (pv 2) pa_nil)))))
    (pss_one (ps_if (pt_cmpR Dat.op_notNo (pv 3) pe_non (nomark _)) (pss_one ps_dead) pss_nil))), ?_⟩
  rintro as Ω P ⟨s, cs, rfl, so, co, l, h⟩
  refine s_seq (s_asg (e_callL (d := s.enc) (fun _ => rfl) (fun _ => rfl) rfl (e_var rfl (e_var rfl fun f c' sv => ⟨s, cs, 200, rfl, rfl, so, co, by omega, by decide, ?_⟩))))
  exact s_if (t_test (e_op (e_var rfl (e_non (r_notN ⟨_, rfl, (fun z => (by cases z)), (fun _ => s_next h)⟩)))))
end
end K20

set_option Elab.async false
set_option linter.all false
set_option maxRecDepth 100000
set_option maxHeartbeats 1000000
namespace K20
open PySem PySem.Spec PyProof.Rows L2 Dat
local macro_rules | `(tactic| trivial) => `(tactic| (first
  | (with_reducible refine s_seq ?_)
  | (with_reducible refine s_asg ?_)
  | (with_reducible refine s_ret ?_)
  | (with_reducible refine s_drop ?_)
  | (with_reducible refine s_next ?_)
  | (with_reducible refine s_retN ?_)
  | (with_reducible refine s_brk ?_)
  | (with_reducible refine s_cont ?_)
  | (with_reducible refine s_if ?_)
  | (with_reducible refine e_int ?_)
  | (with_reducible refine e_str ?_)
  | (with_reducible refine e_bl ?_)
  | (with_reducible refine e_non ?_)
  | (with_reducible refine e_ty ?_)
  | (with_reducible refine e_tupD ?_)
  | (with_reducible refine e_lstD ?_)
  | (with_reducible refine e_op ?_)
  | (with_reducible refine e_un ?_)
  | (with_reducible refine e_then ?_)
  | (with_reducible refine e_cb ?_)
  | (with_reducible refine e_call ?_)
  | (with_reducible refine e_if ?_)
  | (with_reducible refine e_chain ?_)
  | (with_reducible refine e_andV ?_)
  | (with_reducible refine e_orV ?_)
  | (with_reducible refine e_notV ?_)
  | (with_reducible refine a_cons ?_)
  | (with_reducible refine a_nil ?_)
  | (with_reducible refine t_test ?_)
  | (with_reducible refine t_B ?_)
  | (with_reducible refine t_not ?_)
  | (with_reducible refine t_and ?_)
  | (with_reducible refine t_or ?_)
  | (with_reducible refine r_I0i ?_)
  | (with_reducible refine r_I0b ?_)
  | (with_reducible refine r_neg ?_)
  | (with_reducible refine r_isN ?_)
  | (with_reducible refine r_notN ?_)
  | (with_reducible refine c_lenT ?_)
  | (with_reducible refine c_lenL ?_)
  | (with_reducible refine c_intI ?_)
  | (with_reducible refine c_intB ?_)
  | (with_reducible refine c_max2 ?_)
  | (with_reducible refine c_min2 ?_)
  | (with_reducible refine c_abs ?_)
  | (with_reducible refine r_tupL ?_)
  | (with_reducible refine r_tupT ?_)
  | (with_reducible refine c_allM ?_)
  | ((with_reducible apply e_var); (exact rfl))
  | ((with_reducible refine r_eq ?_ ?_); (exact rfl))
  | ((with_reducible refine r_ne ?_ ?_); (exact rfl))
  | (with_reducible refine c_isi kit_int ?_)
  | (with_reducible refine c_isi kit_bool ?_)
  | (with_reducible refine c_isi kit_tuple ?_)
  | (with_reducible refine c_isi kit_list ?_)
  | (with_reducible refine c_isi kit_str ?_)
  | ((with_reducible apply r_ixT); (exact rfl))
  | ((with_reducible apply dats_pack); (iterate 40 (first | exact Dats.nil | apply Dats.cons | skip)); (exact rfl))
  | (with_reducible refine s_asgG ?_) | (with_reducible refine g_name ?_) | ((with_reducible refine g_tup ?_ ?_); (exact rfl)) | (refine gs_nil ?_) | (refine gs_cons ?_) | (with_reducible refine ⟨rfl, ?_⟩)
  | (refine ⟨_, rfl, ?_⟩) | (refine ⟨_, _, rfl, ?_⟩) | (refine ⟨_, _, _, rfl, ?_⟩) | (with_reducible refine ⟨fun _ => ?_, fun _ => ?_⟩) | fail))
/-! ### what the bench does -/
structure St where
  line : List Int
  sg : Int
  mood : Int
abbrev St.enc (t : St) : PyData := .tuple [itup t.line, .int t.sg, .int t.mood]
def front : List Int → Int
  | [] => 0
  | z :: _ => z
def within1 (x : Int) (p : Int × Int) : Bool := !(decide (x < p.1) || decide (x > p.2))
def feas (line : List Int) (sg left : Int) : Deed → Bool
  | .go => true
  | .group => !line.isEmpty && decide (front line ≤ left)
  | .single => decide (sg > 0) && decide (left > 0)
def fits (line : List Int) (sg left por mood : Int) (r : Rw) : Bool :=
  decide (r.m = mood) && (feas line sg left r.d && (within1 (front line) r.f && (within1 left r.l && (within1 sg r.s && within1 por r.o))))
structure Fl where
  line : List Int
  sg : Int
  mood : Int
  left : Int
  ds : List (Deed × Int)
def stepF (x : Fl) (r : Rw) : Fl := match r.d with
  | .go => { x with mood := r.a }
  | .group => ⟨x.line.tail, x.sg, r.a, x.left - front x.line, x.ds ++ [(.group, front x.line)]⟩
  | .single => ⟨x.line, x.sg - 1, r.a, x.left - 1, x.ds ++ [(.single, 1)]⟩
def fill (rs : List Rw) (por : Int) : Nat → Fl → Fl
  | 0, x => x
  | n + 1, x => match rs.find? (fits x.line x.sg x.left por x.mood) with
    | none => x
    | some r => if r.d = .go then stepF x r else fill rs por n (stepF x r)
abbrev encD (ds : List (Deed × Int)) : List PyData := ds.map fun d => .tuple [.str d.1.str, .int d.2]
def comeL (r1 : Int) : List Int → List Int × Int → List Int × Int
  | [], x => x
  | g :: gs, x => comeL r1 gs (if (x.1.length : Int) < r1 then (x.1 ++ [g], x.2) else (x.1, x.2 + g))
def comeF (s : Shop) (sg : Int) (c : Com) : Int := if s.r2 - sg < c.k then s.r2 - sg else c.k
section
variable {P : Program} {w : World} {K : PySem.W.Frag} [Tb K] {mg : Str → Option Value} {base : Heap}
abbrev spWith : ASp := fun as Ω P => ∃ (xs : List Int) (ps : List (Int × Int)), as = [.dat (itup xs), .dat (.tuple (ps.map fun p => rng p.1 p.2))] ∧ xs.length = ps.length ∧ P (.dat (.bool ((xs.zip ps).all fun z => within1 z.1 z.2))) Ω
theorem zipA_at {ds es : List PyData} {i : Nat} {a : Av} (h : (zipA ds es)[i]? = some a) : i < ds.length ∧ a = .dat (.tuple [ds.getD i .none, es.getD i .none]) := by
  obtain ⟨hi, rfl⟩ := rng_at h
  exact ⟨hi, rfl⟩
theorem ok_within (T : Top K mg) : FnOk P w K mg base CX0 1 T.f_within T.d_within ["looks", "spans"] (spA K spWith) := by
  refine fnA_ok T.D_within.F sc_within (fun as Ω P ⟨xs, ps, e, _⟩ => by subst e; rfl) (fun cdv A outer s H E hr => ?_)
  refine ⟨_, (pss_cons (ps_for PassesOwn.never rfl (Dat.zipQ (K := K) rfl rfl T.b_zip (pa_cons (pv 0) (pa_cons (pv 1) pa_nil))) (Dat.pgT (K := K) (n := 2) rfl rfl (pgs_cons (pg_name (i := 2) sc_within.nd rfl (.inl rfl)) (pgs_cons (Dat.pgT (K := K) (n := 2) rfl rfl (pgs_cons (pg_name (i := 3) sc_within.nd rfl (.inl rfl)) (pgs_cons (pg_name (i := 4) sc_within.nd rfl (.inl rfl)) pgs_nil))) pgs_nil)))
      (pss_one (ps_if (PW.pt (pw_or (pt_cmpR op_lt (pv 2) (pv 3) (nomark _)) (pw_or1 (pt_cmpR op_gt (pv 2) (pv 4) (nomark _)))))
        (pss_one (ps_ret pe_bl))
        pss_nil)))
    (pss_one (ps_ret pe_bl))), ?_⟩
  rintro as Ω P ⟨xs, ps, rfl, hl, h⟩
  refine s_seqM (fun Γ' Ω' => Ω = Ω' ∧ ∀ z ∈ xs.zip ps, within1 z.1 z.2 = true) ?_ ?_
  · refine s_for (fun as i Γ' Ω' => as = zipA (xs.map PyData.int) (ps.map fun p => rng p.1 p.2) ∧ Ω = Ω' ∧ (∃ x y z, Γ' = [some (.dat (itup xs)), some (.dat (.tuple (ps.map fun p => rng p.1 p.2))), x, y, z]) ∧ ∀ z ∈ (xs.zip ps).take i, within1 z.1 z.2 = true) ?_
    refine i_zipT (a_cons (e_var rfl (a_cons (e_var rfl (a_nil ⟨_, _, rfl, by rw [List.length_map, List.length_map, hl], ⟨rfl, rfl, ⟨_, _, _, rfl⟩, (fun z hz => by simp at hz)⟩, ?_, ?_⟩)))))
    · rintro i it Γ' Ω' hit ⟨_, rfl, ⟨x, y, z, rfl⟩, hw⟩
      obtain ⟨hi, rfl⟩ := zipA_at hit
      rw [List.length_map] at hi
      have hi2 : i < ps.length := by omega
      have e1 : (xs.map PyData.int).getD i .none = .int xs[i] := by
        rw [List.getD_eq_getElem?_getD, List.getElem?_map, List.getElem?_eq_getElem hi]
        rfl
      have e2 : (ps.map fun p => rng p.1 p.2).getD i .none = rng ps[i].1 ps[i].2 := by
        rw [List.getD_eq_getElem?_getD, List.getElem?_map, List.getElem?_eq_getElem hi2]
        rfl
      have ez : (xs.zip ps)[i]? = some (xs[i], ps[i]) := by
        rw [List.getElem?_zip_eq_some]
        exact ⟨List.getElem?_eq_getElem hi, List.getElem?_eq_getElem hi2⟩
      rw [e1, e2]
      refine g_tup rfl (gs_cons (g_name ⟨rfl, gs_cons (g_tup rfl (gs_cons (g_name ⟨rfl, gs_cons (g_name ⟨rfl, gs_nil ⟨rfl, gs_nil ?_⟩⟩)⟩)))⟩))
      refine s_ifB (b := decide (xs[i] < ps[i].1) || decide (xs[i] > ps[i].2)) (t_orB ?_ fun _ => ?_) (fun z => ?_) fun z => s_next ⟨rfl, rfl, ⟨_, _, _, rfl⟩, fun u hu => ?_⟩
      · exact t_ofC (e_op (e_var rfl (e_var rfl (r_I0b ⟨rfl, rfl⟩))))
      · exact t_ofC (e_op (e_var rfl (e_var rfl (r_I0b ⟨rfl, rfl⟩))))
      · have : ((xs.zip ps).all fun z => within1 z.1 z.2) = false := by
          rw [List.all_eq_false]
          refine ⟨_, List.mem_of_getElem? ez, ?_⟩
          simp only [within1, z]
          decide
        rw [this] at h
        exact s_ret (e_bl h)
      · rw [List.take_add_one, ez] at hu
        rcases List.mem_append.mp hu with hu | hu
        · exact hw u hu
        · have : u = (xs[i], ps[i]) := by simpa using hu
          subst this
          simp only [within1, z]
          rfl
    · rintro Γ' Ω' ⟨_, rfl, _, hw⟩
      refine ⟨rfl, fun z hz => hw z ?_⟩
      rw [List.take_of_length_le]
      · exact hz
      · rw [List.length_zip, zipA, List.length_map, List.length_range, List.length_map]
        omega
  rintro Γ' Ω' ⟨rfl, hw⟩
  rw [List.all_eq_true.mpr hw] at h
  exact s_ret (e_bl h)
abbrev spFit : ASp := fun as Ω P => ∃ (rs : List Rw) (line : List Int) (sg left por mood : Int) (ds : List PyData), as = [.dat (rules rs), .dat (.int mood), .dat (itup [front line, left, sg, por]), .dat (.tuple ds)] ∧
  ds.all canFlat = true ∧ (∀ d : Deed, (ds.any fun e => PyData.eqv e (.str d.str)) = feas line sg left d) ∧ ((∀ r ∈ rs, fits line sg left por mood r = false) → P (.dat .none) Ω) ∧
  ∀ (i : Nat) r, rs[i]? = some r → fits line sg left por mood r = true → (∀ j r', j < i → rs[j]? = some r' → fits line sg left por mood r' = false) → P (.dat (.int (i : Nat))) Ω
theorem rules_at {rs : List Rw} {i : Nat} {d : PyData} (h : (rs.map Rw.enc)[i]? = some d) : ∃ r, rs[i]? = some r ∧ d = r.enc := by
  rw [List.getElem?_map] at h
  cases e : rs[i]? with
  | none => rw [e] at h; cases h
  | some r =>
    rw [e] at h
    cases h
    exact ⟨r, rfl, rfl⟩
theorem ok_fit (T : Top K mg) : FnOk P w K mg base CX0 2 T.f_fitting_row T.d_fitting_row ["rule", "mood", "looks", "deeds"] (spA K spFit) := by
  have G_within : FnOk P w K mg base CX0 1 T.f_within T.d_within ["looks", "spans"] (spA K spWith) := ok_within T
  refine fnA_ok T.D_fitting_row.F sc_fitting_row (fun as Ω P ⟨rs, line, sg, left, por, mood, ds, e, _⟩ => by subst e; rfl) (fun cdv A outer s H E hr => ?_)
  refine ⟨_, (pss_cons (ps_for PassesOwn.never rfl (Dat.enumTQ (K := K) rfl rfl T.b_enumerate (pa_cons (pv 0) pa_nil)) (Dat.pgT (K := K) (n := 2) rfl rfl (pgs_cons (pg_name (i := 4) sc_fitting_row.nd rfl (.inl rfl)) (pgs_cons (pg_name (i := 5) sc_fitting_row.nd rfl (.inl rfl)) pgs_nil)))
      (pss_one (ps_if (PW.pt (pw_and (pt_cmpR op_eq (pe_ix (Dat.ixT (K := K) rfl) (pv 5) pe_int (fun _ _ => rfl)) (pv 1) (nomark _)) (pw_and (pt_cmpR (Dat.inQ (K := K) rfl) (pe_ix (Dat.ixT (K := K) rfl) (pv 5) pe_int (fun _ _ => rfl)) (pv 3) rfl) (pw_and1 (pt_val (pe_call G_within (hr.mono (by omega)) rfl T.D_within.g T.D_within.F.kp T.D_within.b .nil pass0 (pa_cons (pv 2) (pa_cons (pe_slice (Dat.slT (K := K) rfl) (pv 5) (po_some pe_int) (po_some pe_int)) pa_nil))))))))
        (pss_one (ps_ret (pv 4)))
        pss_nil)))
    (pss_one (ps_ret pe_non))), ?_⟩
  rintro as Ω P ⟨rs, line, sg, left, por, mood, ds, rfl, fl, hf, h1, h2⟩
  refine s_seqM (fun Γ' Ω' => Ω = Ω' ∧ ∀ r ∈ rs, fits line sg left por mood r = false) ?_ ?_
  · refine s_for (fun as i Γ' Ω' => as = enumA (rs.map Rw.enc) ∧ Ω = Ω' ∧ (∃ x y, Γ' = [some (.dat (rules rs)), some (.dat (.int mood)), some (.dat (itup [front line, left, sg, por])), some (.dat (.tuple ds)), x, y]) ∧ ∀ j r', j < i → rs[j]? = some r' → fits line sg left por mood r' = false) ?_
    refine i_enumT (a_cons (e_var rfl (a_nil ⟨_, rfl, ⟨rfl, rfl, ⟨_, _, rfl⟩, (fun j r' hj => absurd hj (Nat.not_lt_zero _))⟩, ?_, ?_⟩)))
    · rintro i it Γ' Ω' hit ⟨_, rfl, ⟨x, y, rfl⟩, hw⟩
      obtain ⟨d, hd, rfl⟩ := enumA_at hit
      obtain ⟨r, er, rfl⟩ := rules_at hd
      refine g_tup rfl (gs_cons (g_name ⟨rfl, gs_cons (g_name ⟨rfl, gs_nil ?_⟩)⟩))
      refine s_ifB (b := fits line sg left por mood r) (t_andB ?_ fun _ => t_andB ?_ fun _ => ?_) (fun z => ?_) fun z => s_next ⟨rfl, rfl, ⟨_, _, rfl⟩, fun j r' hj e' => ?_⟩
      · exact t_ofC (e_op (e_op (e_var rfl (e_int (r_ixT rfl (e_var rfl (r_eq rfl ⟨rfl, rfl⟩)))))))
      · refine t_ofC (e_op (e_op (e_var rfl (e_int (r_ixT rfl (e_var rfl (r_inT rfl fl ⟨?_, rfl⟩)))))))
        rw [if_neg (by decide), hf]
      · refine t_ofB (e_call (a_cons (e_var rfl (a_cons (e_slT (e_var rfl ⟨_, rfl, o_some (e_int ⟨_, rfl, o_some (e_int ⟨_, rfl, a_nil ⟨[front line, left, sg, por], [r.f, r.l, r.s, r.o], rfl, rfl, ?_, rfl⟩⟩)⟩)⟩))))))
        simp [List.zip, List.zipWith]
      · exact s_ret (e_var rfl (h2 i r er z hw))
      · by_cases e : j = i
        · subst e
          rw [er] at e'
          cases e'
          exact z
        · exact hw j r' (by omega) e'
    · rintro Γ' Ω' ⟨_, rfl, _, hw⟩
      refine ⟨rfl, fun r hr => ?_⟩
      obtain ⟨j, hj⟩ := List.getElem?_of_mem hr
      refine hw j r ?_ hj
      rw [enumA_len, List.length_map]
      exact (List.getElem?_eq_some_iff.mp hj).1
  rintro Γ' Ω' ⟨rfl, hw⟩
  exact s_ret (e_non (h1 hw))
abbrev spDeeds : ASp := fun as Ω P => ∃ (line : List Int) (sg left : Int), as = [.dat (itup line), .dat (.int sg), .dat (.int left)] ∧ ∀ ds : List PyData, ds.all canFlat = true → (∀ d : Deed, (ds.any fun e => PyData.eqv e (.str d.str)) = feas line sg left d) → P (.dat (.tuple ds)) Ω
theorem deeds_in {line : List Int} {sg left : Int} (hb : feas line sg left .group = true) : (PyData.str "group" :: (if feas line sg left .single then [PyData.str "single", .str "go"] else [.str "go"])).all canFlat = true ∧ ∀ d : Deed, ((PyData.str "group" :: (if feas line sg left .single then [PyData.str "single", .str "go"] else [.str "go"])).any fun e => PyData.eqv e (.str d.str)) = feas line sg left d := by
  refine ⟨by cases feas line sg left .single <;> rfl, fun d => ?_⟩
  cases d
  · rw [hb]; cases feas line sg left .single <;> decide
  · cases feas line sg left .single <;> decide
  · rw [show feas line sg left .go = true from rfl]; cases feas line sg left .single <;> decide
theorem deeds_out {line : List Int} {sg left : Int} (hb : feas line sg left .group = false) : (if feas line sg left .single then [PyData.str "single", .str "go"] else [.str "go"]).all canFlat = true ∧ ∀ d : Deed, ((if feas line sg left .single then [PyData.str "single", .str "go"] else [.str "go"]).any fun e => PyData.eqv e (.str d.str)) = feas line sg left d := by
  refine ⟨by cases feas line sg left .single <;> rfl, fun d => ?_⟩
  cases d
  · rw [hb]; cases feas line sg left .single <;> decide
  · cases feas line sg left .single <;> decide
  · rw [show feas line sg left .go = true from rfl]; cases feas line sg left .single <;> decide
theorem ok_deeds (T : Top K mg) : FnOk P w K mg base CX0 1 T.f_bench_deeds T.d_bench_deeds ["line", "singles", "left"] (spA K spDeeds) := by
  refine fnA_ok T.D_bench_deeds.F sc_bench_deeds (fun as Ω P ⟨line, sg, left, e, _⟩ => by subst e; rfl) (fun cdv A outer s H E hr => ?_)
  refine ⟨_, (pss_cons (ps_set (i := 3) sc_bench_deeds.nd rfl (.inl rfl) (pe_tup (pa_cons pe_str pa_nil)))
    (pss_cons (ps_if (PW.pt (pw_and (pt_cmpR op_gt (pv 1) pe_int (nomark _)) (pw_and1 (pt_cmpR op_gt (pv 2) pe_int (nomark _)))))
      (pss_one (ps_set (i := 3) sc_bench_deeds.nd rfl (.inl rfl) (pe_op (Dat.catT (K := K) rfl) (pe_tup (pa_cons pe_str pa_nil)) (pv 3))))
      pss_nil)
    (pss_cons (ps_if (PW.pt (pw_and (Dat.truQ (K := K) rfl (pv 0)) (pw_and1 (pt_cmpR op_le (pe_ix (Dat.ixT (K := K) rfl) (pv 0) pe_int (fun _ _ => rfl)) (pv 2) (nomark _)))))
      (pss_one (ps_set (i := 3) sc_bench_deeds.nd rfl (.inl rfl) (pe_op (Dat.catT (K := K) rfl) (pe_tup (pa_cons pe_str pa_nil)) (pv 3))))
      pss_nil)
    (pss_one (ps_ret (pv 3)))))), ?_⟩
  rintro as Ω P ⟨line, sg, left, rfl, h⟩
  have hs : feas line sg left .single = (decide (sg > 0) && decide (left > 0)) := rfl
  refine s_seq (s_asg (e_tupD (a_cons (e_str (a_nil ⟨_, .cons .nil, rfl, ?_⟩)))))
  refine s_seqM (fun Γ' Ω' => Ω = Ω' ∧ Γ' = [some (.dat (itup line)), some (.dat (.int sg)), some (.dat (.int left)), some (.dat (.tuple (if feas line sg left .single then [PyData.str "single", .str "go"] else [.str "go"])))]) ?_ ?_
  · refine s_ifB (b := decide (sg > 0) && decide (left > 0)) (t_andB ?_ fun _ => ?_) (fun z => ?_) fun z => s_next ⟨rfl, ?_⟩
    · exact t_ofC (e_op (e_var rfl (e_int (r_I0b ⟨rfl, rfl⟩))))
    · exact t_ofC (e_op (e_var rfl (e_int (r_I0b ⟨rfl, rfl⟩))))
    · exact s_asg (e_op (e_tupD (a_cons (e_str (a_nil ⟨_, .cons .nil, rfl, e_var rfl (r_catT (by decide) ⟨rfl, by rw [hs, z]; rfl⟩)⟩)))))
    · rw [hs, z]
      rfl
  rintro Γ' Ω' ⟨rfl, rfl⟩
  refine s_seqM (fun Γ' Ω' => Ω = Ω' ∧ ∃ ds, ds.all canFlat = true ∧ (∀ d : Deed, (ds.any fun e => PyData.eqv e (.str d.str)) = feas line sg left d) ∧ Γ' = [some (.dat (itup line)), some (.dat (.int sg)), some (.dat (.int left)), some (.dat (.tuple ds))]) ?_ ?_
  · match line with
    | [] =>
      have hg : feas [] sg left .group = false := rfl
      exact s_if (t_and (t_truT (e_var rfl ⟨_, rfl, nofun, fun _ => ⟨nofun, fun _ => s_next ⟨rfl, _, (deeds_out hg).1, (deeds_out hg).2, rfl⟩⟩⟩)))
    | z :: r =>
      refine s_if (t_and (t_truT (e_var rfl ⟨_, rfl, (fun _ => ?_), nofun⟩)))
      refine t_test (e_op (e_op (e_var rfl (e_int (r_ixT (d := .int z) (atI_nat' (i := 0) rfl) (e_var rfl (r_I0b ⟨_, rfl, (fun h1 => ?_), (fun h1 => ?_)⟩)))))))
      · have hg : feas (z :: r) sg left .group = true := h1
        exact s_asg (e_op (e_tupD (a_cons (e_str (a_nil ⟨_, .cons .nil, rfl, e_var rfl (r_catT (by split <;> decide) ⟨rfl, _, (deeds_in hg).1, (deeds_in hg).2, rfl⟩)⟩)))))
      · have hg : feas (z :: r) sg left .group = false := h1
        exact s_next ⟨rfl, _, (deeds_out hg).1, (deeds_out hg).2, rfl⟩
  rintro Γ' Ω' ⟨rfl, ds, fl, hf, rfl⟩
  exact s_ret (e_var rfl (h ds fl hf))
abbrev spCome : ASp := fun as Ω P => ∃ (s : Shop) (line : List Int) (sg : Int) (c : Com), as = [.dat s.enc, .dat (itup line), .dat (.int sg), .dat c.enc] ∧ s.Ok ∧ c.Ok s ∧ line.length ≤ 100 ∧
  P (.dat (.tuple [itup (comeL s.r1 c.gs (line, 0)).1, .int (sg + comeF s sg c), .int ((comeL s.r1 c.gs (line, 0)).2 + c.k - comeF s sg c)])) Ω
theorem comeL_snoc (r1 : Int) (gs : List Int) (x : List Int × Int) (i : Nat) (g : Int) (e : gs[i]? = some g) : comeL r1 (gs.drop i) x = comeL r1 (gs.drop (i + 1)) (if (x.1.length : Int) < r1 then (x.1 ++ [g], x.2) else (x.1, x.2 + g)) := by
  obtain ⟨hi, hg⟩ := List.getElem?_eq_some_iff.mp e
  rw [List.drop_eq_getElem_cons hi, hg]
  rfl
theorem ok_come (T : Top K mg) : FnOk P w K mg base CX0 1 T.f_come_in T.d_come_in ["setup", "line", "singles", "comers"] (spA K spCome) := by
  refine fnA_ok T.D_come_in.F sc_come_in (fun as Ω P ⟨s, line, sg, c, e, _⟩ => by subst e; rfl) (fun cdv A outer s H E hr => ?_)
  refine ⟨_, (pss_cons (ps_asg (pv 3) (Dat.pgT (K := K) (n := 2) rfl rfl (pgs_cons (pg_name (i := 4) sc_come_in.nd rfl (.inl rfl)) (pgs_cons (pg_name (i := 5) sc_come_in.nd rfl (.inl rfl)) pgs_nil))))
    (pss_cons (ps_set (i := 6) sc_come_in.nd rfl (.inl rfl) pe_int)
    (pss_cons (ps_for PassesOwn.never rfl (Dat.piT (K := K) rfl (pv 4)) (pg_name (i := 7) sc_come_in.nd rfl (.inl rfl))
      (pss_one (ps_if (pt_cmpR op_lt (pe_callB (Dat.lenQ (K := K) rfl) rfl T.b_len bt_len (pa_cons (pv 1) pa_nil)) (pe_ix (Dat.ixT (K := K) rfl) (pe_ix (Dat.ixT (K := K) rfl) (pv 0) pe_int (fun _ _ => rfl)) pe_int (fun _ _ => rfl)) (nomark _))
        (pss_one (ps_set (i := 1) sc_come_in.nd rfl (.inl rfl) (pe_op (Dat.catT (K := K) rfl) (pv 1) (pe_tup (pa_cons (pv 7) pa_nil)))))
        (pss_one (ps_aug (i := 6) sc_come_in.nd rfl (.inl rfl) (pv 7) ip_add)))))
    (pss_cons (ps_set (i := 8) sc_come_in.nd rfl (.inl rfl) (pe_callB (Dat.cl_min2 rfl) rfl T.b_min bt_min (pa_cons (pv 5) (pa_cons (pe_op op_sub (pe_ix (Dat.ixT (K := K) rfl) (pe_ix (Dat.ixT (K := K) rfl) (pv 0) pe_int (fun _ _ => rfl)) pe_int (fun _ _ => rfl)) (pv 2)) pa_nil))))
    (pss_one (ps_ret (pe_tup (pa_cons (pv 1) (pa_cons (pe_op op_add (pv 2) (pv 8)) (pa_cons (pe_op op_sub (pe_op op_add (pv 6) (pv 5)) (pv 8)) pa_nil)))))))))), ?_⟩
  rintro as Ω P ⟨s, line, sg, c, rfl, so, co, hl, h⟩
  refine s_seq (s_asgG (e_var rfl (g_tup rfl (gs_cons (g_name ⟨rfl, gs_cons (g_name ⟨rfl, gs_nil ?_⟩)⟩)))))
  refine s_seq (s_asg (e_int ?_))
  refine s_seqM (fun Γ' Ω' => Ω = Ω' ∧ ∃ y, Γ' = [some (.dat s.enc), some (.dat (itup (comeL s.r1 c.gs (line, 0)).1)), some (.dat (.int sg)), some (.dat c.enc), some (.dat (itup c.gs)), some (.dat (.int c.k)), some (.dat (.int (comeL s.r1 c.gs (line, 0)).2)), y, none]) ?_ ?_
  · refine s_for (fun as i Γ' Ω' => as = (c.gs.map PyData.int).map .dat ∧ Ω = Ω' ∧ ∃ y ln aw, comeL s.r1 c.gs (line, 0) = comeL s.r1 (c.gs.drop i) (ln, aw) ∧ ln.length ≤ 100 + i ∧ Γ' = [some (.dat s.enc), some (.dat (itup ln)), some (.dat (.int sg)), some (.dat c.enc), some (.dat (itup c.gs)), some (.dat (.int c.k)), some (.dat (.int aw)), y, none]) ?_
    refine i_tup (e_var rfl ⟨_, rfl, ⟨rfl, rfl, _, line, 0, rfl, hl, rfl⟩, ?_, ?_⟩)
    · rintro i it Γ' Ω' hit ⟨_, rfl, y, ln, aw, hc, l1, rfl⟩
      have hi := (List.getElem?_eq_some_iff.mp hit).1
      rw [List.length_map, List.length_map] at hi
      have hg : c.gs[i]? = some c.gs[i] := List.getElem?_eq_getElem hi
      have e : it = .dat (.int c.gs[i]) := by
        rw [List.getElem?_map, List.getElem?_map, hg] at hit
        exact (Option.some.inj hit).symm
      subst e
      have hc2 := hc.trans (comeL_snoc s.r1 c.gs (ln, aw) i _ hg)
      have := co.g
      have := so.c11
      refine g_name ?_
      refine s_if (t_test (e_op (e_cb (a_cons (e_var rfl (a_nil (c_lenT (e_op (e_op (e_var rfl (e_int (r_ixT rfl (e_int (r_ixT rfl (r_I0b ⟨_, rfl, (fun z => ?_), (fun z => ?_)⟩)))))))))))))))
      · have z' := of_decide_eq_true z
        rw [List.length_map] at z'
        rw [if_pos z'] at hc2
        refine s_asg (e_op (e_var rfl (e_tupD (a_cons (e_var rfl (a_nil ⟨_, .cons .nil, rfl, r_catT (by rw [List.length_map]; show _ + 1 ≤ _; omega) ⟨rfl, rfl, some (.dat (.int c.gs[i])), ln ++ [c.gs[i]], aw, hc2, by rw [List.length_append]; show _ + 1 ≤ _; omega, ?_⟩⟩))))))
        rw [show itup (ln ++ [c.gs[i]]) = PyData.tuple (ln.map PyData.int ++ [.int c.gs[i]]) from congrArg PyData.tuple List.map_append]
        rfl
      · have z' := of_decide_eq_false z
        rw [List.length_map] at z'
        rw [if_neg z'] at hc2
        exact s_aug rfl (e_var rfl ⟨_, rfl, rfl, rfl, some (.dat (.int c.gs[i])), ln, _, hc2, by omega, rfl⟩)
    · rintro Γ' Ω' ⟨_, rfl, y, ln, aw, hc, l1, rfl⟩
      rw [List.length_map, List.length_map, List.drop_length] at hc
      rw [hc]
      exact ⟨rfl, y, rfl⟩
  rintro Γ' Ω' ⟨rfl, y, rfl⟩
  refine s_seq (s_asg (e_cb (a_cons (e_var rfl (a_cons (e_op (e_op (e_op (e_var rfl (e_int (r_ixT rfl (e_int (r_ixT rfl (e_var rfl (r_I0i (a_nil (c_min2 ?_)))))))))))))))))
  refine s_ret (e_tupD (a_cons (e_var rfl (a_cons (e_op (e_var rfl (e_var rfl (r_I0i (a_cons (e_op (e_op (e_var rfl (e_var rfl (r_I0i (e_var rfl (r_I0i (a_nil ⟨_, .cons (.cons (.cons .nil)), rfl, h⟩)))))))))))))))))
end
end K20

set_option Elab.async false
set_option linter.all false
set_option maxRecDepth 100000
set_option maxHeartbeats 1000000
namespace K20
open PySem PySem.Spec PyProof.Rows L2 Dat LamX Clo
local macro_rules | `(tactic| trivial) => `(tactic| (first
  | (with_reducible refine s_seq ?_)
  | (with_reducible refine s_asg ?_)
  | (with_reducible refine s_ret ?_)
  | (with_reducible refine s_drop ?_)
  | (with_reducible refine s_next ?_)
  | (with_reducible refine s_retN ?_)
  | (with_reducible refine s_brk ?_)
  | (with_reducible refine s_cont ?_)
  | (with_reducible refine s_if ?_)
  | (with_reducible refine e_int ?_)
  | (with_reducible refine e_str ?_)
  | (with_reducible refine e_bl ?_)
  | (with_reducible refine e_non ?_)
  | (with_reducible refine e_ty ?_)
  | (with_reducible refine e_tupD ?_)
  | (with_reducible refine e_lstD ?_)
  | (with_reducible refine e_op ?_)
  | (with_reducible refine e_un ?_)
  | (with_reducible refine e_then ?_)
  | (with_reducible refine e_cb ?_)
  | (with_reducible refine e_call ?_)
  | (with_reducible refine e_if ?_)
  | (with_reducible refine e_chain ?_)
  | (with_reducible refine e_andV ?_)
  | (with_reducible refine e_orV ?_)
  | (with_reducible refine e_notV ?_)
  | (with_reducible refine a_cons ?_)
  | (with_reducible refine a_nil ?_)
  | (with_reducible refine t_test ?_)
  | (with_reducible refine t_B ?_)
  | (with_reducible refine t_not ?_)
  | (with_reducible refine t_and ?_)
  | (with_reducible refine t_or ?_)
  | (with_reducible refine r_I0i ?_)
  | (with_reducible refine r_I0b ?_)
  | (with_reducible refine r_neg ?_)
  | (with_reducible refine r_isN ?_)
  | (with_reducible refine r_notN ?_)
  | (with_reducible refine c_lenT ?_)
  | (with_reducible refine c_lenL ?_)
  | (with_reducible refine c_intI ?_)
  | (with_reducible refine c_intB ?_)
  | (with_reducible refine c_max2 ?_)
  | (with_reducible refine c_min2 ?_)
  | (with_reducible refine c_abs ?_)
  | (with_reducible refine r_tupL ?_)
  | (with_reducible refine r_tupT ?_)
  | (with_reducible refine c_allM ?_)
  | ((with_reducible apply e_var); (exact rfl))
  | ((with_reducible refine r_eq ?_ ?_); (exact rfl))
  | ((with_reducible refine r_ne ?_ ?_); (exact rfl))
  | (with_reducible refine c_isi kit_int ?_)
  | (with_reducible refine c_isi kit_bool ?_)
  | (with_reducible refine c_isi kit_tuple ?_)
  | (with_reducible refine c_isi kit_list ?_)
  | (with_reducible refine c_isi kit_str ?_)
  | ((with_reducible apply r_ixT); (exact rfl))
  | ((with_reducible apply dats_pack); (iterate 40 (first | exact Dats.nil | apply Dats.cons | skip)); (exact rfl))
  | (with_reducible refine s_asgG ?_) | (with_reducible refine g_name ?_) | ((with_reducible refine g_tup ?_ ?_); (exact rfl)) | (refine gs_nil ?_) | (refine gs_cons ?_) | (with_reducible refine ⟨rfl, ?_⟩)
  | (refine ⟨_, rfl, ?_⟩) | (refine ⟨_, _, rfl, ?_⟩) | (refine ⟨_, _, _, rfl, ?_⟩) | (with_reducible refine ⟨fun _ => ?_, fun _ => ?_⟩) | fail))
/-! ### filling the bench, one beat, a row -/
structure FlOk (s : Shop) (x : Fl) : Prop where
  z : ∀ z ∈ x.line, 1 ≤ z ∧ z ≤ s.n
  l : x.line.length ≤ 2
  g0 : 0 ≤ x.sg
  g2 : x.sg ≤ s.r2
  m0 : 0 ≤ x.mood
  m2 : x.mood ≤ 2
structure StOk (s : Shop) (t : St) : Prop where
  z : ∀ z ∈ t.line, 1 ≤ z ∧ z ≤ s.n
  l : t.line.length ≤ 2
  g0 : 0 ≤ t.sg
  g2 : t.sg ≤ s.r2
  m0 : 0 ≤ t.mood
  m2 : t.mood ≤ 2
theorem fits_feas {line : List Int} {sg left por mood : Int} {r : Rw} (h : fits line sg left por mood r = true) : feas line sg left r.d = true := by
  simp only [fits, Bool.and_eq_true] at h
  exact h.2.1
theorem feas_group {line : List Int} {sg left : Int} (h : feas line sg left .group = true) : ∃ z t, line = z :: t ∧ z ≤ left := by
  cases line with
  | nil => cases h
  | cons z t => exact ⟨z, t, rfl, of_decide_eq_true h⟩
theorem feas_single {line : List Int} {sg left : Int} (h : feas line sg left .single = true) : 0 < sg ∧ 0 < left := by
  simp only [feas, Bool.and_eq_true, decide_eq_true_eq] at h
  omega
theorem FlOk.step {s : Shop} {x : Fl} {r : Rw} (h : FlOk s x) (ro : r.Ok) (f : feas x.line x.sg x.left r.d = true) : FlOk s (stepF x r) := by
  unfold stepF
  split
  · exact ⟨h.z, h.l, h.g0, h.g2, ro.a0, ro.a2⟩
  · refine ⟨fun z hz => h.z z (List.mem_of_mem_tail hz), ?_, h.g0, h.g2, ro.a0, ro.a2⟩
    have := h.l
    show x.line.tail.length ≤ 2
    rw [List.length_tail]
    omega
  · next e =>
    rw [e] at f
    have := feas_single f
    have := h.g0
    have := h.g2
    exact ⟨h.z, h.l, by show 0 ≤ x.sg - 1; omega, by show x.sg - 1 ≤ s.r2; omega, ro.a0, ro.a2⟩
theorem FlOk.fill {s : Shop} {rs : List Rw} {por : Int} (ro : ∀ r ∈ rs, r.Ok) : ∀ (n : Nat) {x : Fl}, FlOk s x → FlOk s (fill rs por n x)
  | 0, _, h => h
  | n + 1, x, h => by
    unfold K20.fill
    split
    · exact h
    · next r e =>
      have m := List.mem_of_find?_eq_some e
      have p := fits_feas (List.find?_some e)
      split
      · exact h.step (ro r m) p
      · exact FlOk.fill ro n (h.step (ro r m) p)
def emptyF (x : Fl) : Int := if (!x.line.isEmpty || decide (x.sg > 0)) = true then x.left else 0
def fillB (s : Shop) (rs : List Rw) (por : Int) (line : List Int) (sg mood : Int) : Fl := fill rs por (s.n.toNat + 1) ⟨line, sg, mood, s.n, []⟩
structure Wd where
  ds : List (Deed × Int)
  e : Int
  a : Int
abbrev Wd.enc (w : Wd) : PyData := .tuple [.tuple (encD w.ds), .int w.e, .int w.a]
def stOf (x : Fl) : St := ⟨x.line, x.sg, x.mood⟩
def comeT (s : Shop) (t : St) (c : Com) : List Int × Int := comeL s.r1 c.gs (t.line, 0)
def beatF (s : Shop) (rs : List Rw) (t : St) (c : Com) : Fl := fillB s rs 0 (comeT s t c).1 (t.sg + comeF s t.sg c) t.mood
def beatW (s : Shop) (rs : List Rw) (t : St) (c : Com) : Wd := ⟨(beatF s rs t c).ds, emptyF (beatF s rs t c), (comeT s t c).2 + c.k - comeF s t.sg c⟩
def run (s : Shop) (rs : List Rw) : List Com → St × List Wd → St × List Wd
  | [], x => x
  | c :: cs, x => run s rs cs (stOf (beatF s rs x.1 c), x.2 ++ [beatW s rs x.1 c])
theorem comeL_ok {s : Shop} (so : s.Ok) : ∀ {gs : List Int} {x : List Int × Int}, (∀ g ∈ gs, g ∈ s.sizes) → (∀ z ∈ x.1, 1 ≤ z ∧ z ≤ s.n) → x.1.length ≤ 2 → (∀ z ∈ (comeL s.r1 gs x).1, 1 ≤ z ∧ z ≤ s.n) ∧ (comeL s.r1 gs x).1.length ≤ 2
  | [], x, _, h1, h2 => ⟨h1, h2⟩
  | g :: gs, x, hg, h1, h2 => by
    unfold comeL
    refine comeL_ok so (fun z hz => hg z (List.mem_cons_of_mem _ hz)) ?_ ?_
    · split
      · intro z hz
        rcases List.mem_append.mp hz with hz | hz
        · exact h1 z hz
        · rw [List.mem_singleton.mp hz]
          exact so.zb g (hg g (List.mem_cons_self ..))
      · exact h1
    · split
      · next h =>
        have := so.r12
        rw [List.length_append]
        show _ + 1 ≤ 2
        omega
      · exact h2
theorem comeF_ok {s : Shop} {sg : Int} {c : Com} (co : c.Ok s) (g0 : 0 ≤ sg) (g2 : sg ≤ s.r2) : 0 ≤ comeF s sg c ∧ comeF s sg c ≤ s.r2 - sg ∧ comeF s sg c ≤ c.k := by
  unfold comeF
  have := co.k0
  split <;> omega
theorem beat_ok {s : Shop} {rs : List Rw} {t : St} {c : Com} (so : s.Ok) (ro : RsOk rs) (co : c.Ok s) (to : StOk s t) : FlOk s (beatF s rs t c) := by
  have h := comeL_ok so co.z to.z to.l (x := (t.line, 0))
  have hf := comeF_ok co to.g0 to.g2
  have := to.g0
  exact FlOk.fill ro.all _ ⟨h.1, h.2, by show 0 ≤ t.sg + comeF s t.sg c; omega, by show t.sg + comeF s t.sg c ≤ s.r2; omega, to.m0, to.m2⟩
theorem FlOk.st {s : Shop} {x : Fl} (h : FlOk s x) : StOk s (stOf x) := ⟨h.z, h.l, h.g0, h.g2, h.m0, h.m2⟩
section
variable {P : Program} {w : World} {K : PySem.W.Frag} [Tb K] {mg : Str → Option Value} {base : Heap}
theorem cut1 {z : Int} {t : List Int} : Dat.cutD ((z :: t).map PyData.int) (some 1) none = t.map PyData.int := by
  simp only [Dat.cutD, HT.sIx, List.length_map, List.length_cons, List.map_cons]
  rw [if_neg (by decide), show min (Int.toNat 1) (t.length + 1) = 1 by simp, List.drop_succ_cons, List.drop_zero]
  exact List.take_of_length_le (by rw [List.length_map]; omega)
abbrev spFill : ASp := fun as Ω P => ∃ (s : Shop) (rs : List Rw) (line : List Int) (sg mood : Int), as = [.dat s.enc, .dat (rules rs), .dat (.tuple [itup line, .int sg, .int mood]), .dat (.int 0)] ∧ s.Ok ∧ RsOk rs ∧ (∀ z ∈ line, 1 ≤ z ∧ z ≤ s.n) ∧
  ∀ us : List Int, P (.dat (.tuple [St.enc (stOf (fillB s rs 0 line sg mood)), .tuple (encD (fillB s rs 0 line sg mood).ds), .int (emptyF (fillB s rs 0 line sg mood)), .list (us.map PyData.int)])) Ω
theorem ok_fill (T : Top K mg) : FnOk P w K mg base CX0 3 T.f_fill_bench T.d_fill_bench ["setup", "rule", "standing", "portions"] (spA K spFill) := by
  have G_fitting_row : FnOk P w K mg base CX0 2 T.f_fitting_row T.d_fitting_row ["rule", "mood", "looks", "deeds"] (spA K spFit) := ok_fit T
  have G_bench_deeds : FnOk P w K mg base CX0 1 T.f_bench_deeds T.d_bench_deeds ["line", "singles", "left"] (spA K spDeeds) := ok_deeds T
  refine fnA_ok T.D_fill_bench.F sc_fill_bench (fun as Ω P ⟨s, rs, line, sg, mood, e, _⟩ => by subst e; rfl) (fun cdv A outer s H E hr => ?_)
  refine ⟨_, (pss_cons (ps_asg (pv 2) (Dat.pgT (K := K) (n := 3) rfl rfl (pgs_cons (pg_name (i := 4) sc_fill_bench.nd rfl (.inl rfl)) (pgs_cons (pg_name (i := 5) sc_fill_bench.nd rfl (.inl rfl)) (pgs_cons (pg_name (i := 6) sc_fill_bench.nd rfl (.inl rfl)) pgs_nil)))))
    (pss_cons (ps_set (i := 7) sc_fill_bench.nd rfl (.inl rfl) (pe_ix (Dat.ixT (K := K) rfl) (pv 0) pe_int (fun _ _ => rfl)))
    (pss_cons (ps_set (i := 8) sc_fill_bench.nd rfl (.inl rfl) (pe_lst pa_nil))
    (pss_cons (ps_set (i := 9) sc_fill_bench.nd rfl (.inl rfl) (pe_lst pa_nil))
    (pss_cons (ps_while PassesOwn.never (pt_val pe_bl)
      (pss_cons (ps_set (i := 10) sc_fill_bench.nd rfl (.inl rfl) (pe_tup (pa_cons (pe_ifExp (Dat.truQ (K := K) rfl (pv 4)) (pe_ix (Dat.ixT (K := K) rfl) (pv 4) pe_int (fun _ _ => rfl)) pe_int) (pa_cons (pv 7) (pa_cons (pv 5) (pa_cons (pv 3) pa_nil))))))
      (pss_cons (ps_set (i := 11) sc_fill_bench.nd rfl (.inl rfl) (pe_call G_fitting_row (hr.mono (by omega)) rfl T.D_fitting_row.g T.D_fitting_row.F.kp T.D_fitting_row.b .nil pass0 (pa_cons (pv 1) (pa_cons (pv 6) (pa_cons (pv 10) (pa_cons (pe_call G_bench_deeds (hr.mono (by omega)) rfl T.D_bench_deeds.g T.D_bench_deeds.F.kp T.D_bench_deeds.b .nil pass0 (pa_cons (pv 4) (pa_cons (pv 5) (pa_cons (pv 7) pa_nil)))) pa_nil))))))
      (pss_cons (ps_if (pt_cmpR Dat.op_isNo (pv 11) pe_non (nomark _))
        (pss_one ps_break)
        pss_nil)
      (pss_cons (ps_expr (Dat.appQ (K := K) rfl (pv 9) (pa_cons (pv 11) pa_nil)))
      (pss_cons (ps_set (i := 6) sc_fill_bench.nd rfl (.inl rfl) (pe_ix (Dat.ixT (K := K) rfl) (pe_ix (Dat.ixT (K := K) rfl) (pv 1) (pv 11) (fun _ _ => rfl)) pe_int (fun _ _ => rfl)))
      (pss_cons (ps_set (i := 12) sc_fill_bench.nd rfl (.inl rfl) (pe_ix (Dat.ixT (K := K) rfl) (pe_ix (Dat.ixT (K := K) rfl) (pv 1) (pv 11) (fun _ _ => rfl)) pe_int (fun _ _ => rfl)))
      (pss_cons (ps_if (pt_cmpR op_eq (pv 12) pe_str (nomark _))
        (pss_one ps_break)
        pss_nil)
      (pss_cons (ps_set (i := 13) sc_fill_bench.nd rfl (.inl rfl) pe_int)
      (pss_cons (ps_if (pt_cmpR op_eq (pv 12) pe_str (nomark _))
        (pss_cons (ps_set (i := 13) sc_fill_bench.nd rfl (.inl rfl) (pe_ix (Dat.ixT (K := K) rfl) (pv 4) pe_int (fun _ _ => rfl)))
        (pss_one (ps_set (i := 4) sc_fill_bench.nd rfl (.inl rfl) (pe_slice (Dat.slT (K := K) rfl) (pv 4) (po_some pe_int) po_none))))
        (pss_one (ps_aug (i := 5) sc_fill_bench.nd rfl (.inl rfl) pe_int ip_sub)))
      (pss_cons (ps_aug (i := 7) sc_fill_bench.nd rfl (.inl rfl) (pv 13) ip_sub)
      (pss_one (ps_expr (Dat.appQ (K := K) rfl (pv 8) (pa_cons (pe_tup (pa_cons (pv 12) (pa_cons (pv 13) pa_nil))) pa_nil)))))))))))))))
    (pss_one (ps_ret (pe_tup (pa_cons (pe_tup (pa_cons (pv 4) (pa_cons (pv 5) (pa_cons (pv 6) pa_nil)))) (pa_cons (Dat.pe_tupleK (K := K) rfl rfl T.b_tuple (pv 8)) (pa_cons (pe_ifExp (PW.pt (pw_or (Dat.truQ (K := K) rfl (pv 4)) (pw_or1 (pt_cmpR op_gt (pv 5) pe_int (nomark _))))) (pv 7) pe_int) (pa_cons (pv 9) pa_nil)))))))))))), ?_⟩
  rintro as Ω P ⟨s, rs, line, sg, mood, rfl, so, ro, zo, h⟩
  refine s_seq (s_asgG (e_var rfl (g_tup rfl (gs_cons (g_name ⟨rfl, gs_cons (g_name ⟨rfl, gs_cons (g_name ⟨rfl, gs_nil ?_⟩)⟩)⟩)))))
  refine s_seq (s_asg (e_op (e_var rfl (e_int (r_ixT rfl ?_)))))
  refine s_seq (s_asg (e_lstP (a_nil ⟨by simp, fun pd nd => ?_⟩)))
  refine s_seq (s_asg (e_lstP (a_nil ⟨by simp, fun pu nu => ?_⟩)))
  have ne : pu ≠ pd := fun e => by rw [e, put_same] at nu; cases nu
  have nu' : Ω pu = none := by rw [put_ne ne] at nu; exact nu
  have n1 := so.n1
  have n4 := so.n4
  obtain ⟨X, hX⟩ : ∃ X, X = fillB s rs 0 line sg mood := ⟨_, rfl⟩
  rw [← hX] at h
  refine s_seqM (fun Γ' Ω' => ∃ (us : List Int) (a b c d : Option Av), Γ' = [some (.dat s.enc), some (.dat (rules rs)), some (.dat (.tuple [itup line, .int sg, .int mood])), some (.dat (.int 0)), some (.dat (itup X.line)), some (.dat (.int X.sg)), some (.dat (.int X.mood)), some (.dat (.int X.left)), some (.ptr pd), some (.ptr pu), a, b, c, d] ∧
    Ω' = put (put Ω pd ((encD X.ds).map .dat)) pu ((us.map PyData.int).map .dat) ∧ X.ds.length ≤ 4) ?_ ?_
  · refine s_while (fun m Γ' Ω' => ∃ (x : Fl) (us : List Int) (a b c d : Option Av), X = fill rs 0 m x ∧ x.left < (m : Int) ∧ 0 ≤ x.left ∧ (∀ z ∈ x.line, 1 ≤ z) ∧ (x.ds.length : Int) + x.left ≤ 4 ∧ us.length ≤ x.ds.length ∧
      Γ' = [some (.dat s.enc), some (.dat (rules rs)), some (.dat (.tuple [itup line, .int sg, .int mood])), some (.dat (.int 0)), some (.dat (itup x.line)), some (.dat (.int x.sg)), some (.dat (.int x.mood)), some (.dat (.int x.left)), some (.ptr pd), some (.ptr pu), a, b, c, d] ∧
      Ω' = put (put Ω pd ((encD x.ds).map .dat)) pu ((us.map PyData.int).map .dat)) (s.n.toNat + 1) ⟨⟨line, sg, mood, s.n, []⟩, [], _, _, _, _, hX, by show s.n < _; omega, by show 0 ≤ s.n; omega, fun z hz => (zo z hz).1, by show (0 : Int) + s.n ≤ 4; omega, Nat.le_refl _, rfl, rfl⟩ ?_
    rintro m Γ' Ω' ⟨x, us, a, b, c, d, hx, lm, l0, zx, ld, lu, rfl, rfl⟩
    obtain ⟨n, rfl⟩ : ∃ n, m = n + 1 := ⟨m - 1, by omega⟩
    refine t_B (e_bl ⟨true, rfl, fun _ => ?_, nofun⟩)
    refine s_seqM (fun Γ' Ω' => Ω' = put (put Ω pd ((encD x.ds).map .dat)) pu ((us.map PyData.int).map .dat) ∧ Γ' = [some (.dat s.enc), some (.dat (rules rs)), some (.dat (.tuple [itup line, .int sg, .int mood])), some (.dat (.int 0)), some (.dat (itup x.line)), some (.dat (.int x.sg)), some (.dat (.int x.mood)), some (.dat (.int x.left)), some (.ptr pd), some (.ptr pu), some (.dat (itup [front x.line, x.left, x.sg, 0])), b, c, d]) ?_ ?_
    · match hxl : x.line with
      | [] => exact s_asg (e_tupD (a_cons (e_if (t_truT (e_var rfl ⟨_, rfl, nofun, fun _ => e_int (a_cons (e_var rfl (a_cons (e_var rfl (a_cons (e_var rfl (a_nil ⟨_, .cons (.cons (.cons (.cons .nil))), rfl, rfl, rfl⟩)))))))⟩)))))
      | z :: t => exact s_asg (e_tupD (a_cons (e_if (t_truT (e_var rfl ⟨_, rfl, (fun _ => e_op (e_var rfl (e_int (r_ixT (d := .int z) (atI_nat' (i := 0) rfl) (a_cons (e_var rfl (a_cons (e_var rfl (a_cons (e_var rfl (a_nil ⟨_, .cons (.cons (.cons (.cons .nil))), rfl, rfl, rfl⟩))))))))))), nofun⟩)))))
    rintro Γ' Ω' ⟨rfl, rfl⟩
    refine s_seqM (fun Γ' Ω' => Ω' = put (put Ω pd ((encD x.ds).map .dat)) pu ((us.map PyData.int).map .dat) ∧ ∃ ix, Γ' = [some (.dat s.enc), some (.dat (rules rs)), some (.dat (.tuple [itup line, .int sg, .int mood])), some (.dat (.int 0)), some (.dat (itup x.line)), some (.dat (.int x.sg)), some (.dat (.int x.mood)), some (.dat (.int x.left)), some (.ptr pd), some (.ptr pu), some (.dat (itup [front x.line, x.left, x.sg, 0])), some (.dat ix), c, d] ∧
      ((ix = .none ∧ rs.find? (fits x.line x.sg x.left 0 x.mood) = none) ∨ ∃ (i : Nat) (r : Rw), ix = .int (i : Nat) ∧ rs[i]? = some r ∧ rs.find? (fits x.line x.sg x.left 0 x.mood) = some r ∧ fits x.line x.sg x.left 0 x.mood r = true)) ?_ ?_
    · refine s_asg (e_call (a_cons (e_var rfl (a_cons (e_var rfl (a_cons (e_var rfl (a_cons (e_call (a_cons (e_var rfl (a_cons (e_var rfl (a_cons (e_var rfl (a_nil ⟨x.line, x.sg, x.left, rfl, fun ds fl hf => a_nil ⟨rs, x.line, x.sg, x.left, 0, x.mood, ds, rfl, fl, hf, fun hn => ⟨rfl, _, rfl, .inl ⟨rfl, ?_⟩⟩, fun i r er hr hb => ⟨rfl, _, rfl, .inr ⟨i, r, rfl, er, ?_, hr⟩⟩⟩⟩))))))))))))))))
      · rw [List.find?_eq_none]
        intro r hr
        rw [hn r hr]
        decide
      · rw [List.find?_eq_some_iff_getElem]
        obtain ⟨hi, ei⟩ := List.getElem?_eq_some_iff.mp er
        refine ⟨hr, i, hi, ei, fun j hj => ?_⟩
        rw [hb j _ hj (List.getElem?_eq_getElem (by omega))]
        rfl
    rintro Γ' Ω' ⟨rfl, ix, rfl, ⟨rfl, hn⟩ | ⟨i, r, rfl, er, hs, hp⟩⟩
    · have eX : X = x := by
        rw [hx]
        unfold K20.fill
        rw [hn]
      rw [eX]
      refine s_seq (s_if (t_test (e_op (e_var rfl (e_non (r_isN ⟨_, rfl, (fun _ => s_brk ⟨us, _, _, _, _, rfl, rfl, by omega⟩), nofun⟩))))))
    refine s_seq (s_if (t_test (e_op (e_var rfl (e_non (r_isN ⟨_, rfl, nofun, (fun _ => s_next ?_)⟩))))))
    have hfe := fits_feas hp
    have eX : X = if r.d = .go then stepF x r else K20.fill rs 0 n (stepF x r) := by
      rw [hx]
      show (match rs.find? (fits x.line x.sg x.left 0 x.mood) with | none => x | some (r : Rw) => if r.d = Deed.go then stepF x r else K20.fill rs 0 n (stepF x r)) = _
      rw [hs]
    refine s_seq (s_drop (e_app (e_var rfl ⟨pu, rfl, ⟨_, put_same⟩, a_cons (e_var rfl (a_nil ⟨_, _, rfl, put_same, by rw [List.length_map, List.length_map]; omega, ?_⟩))⟩)))
    have eu : put (put (put Ω pd ((encD x.ds).map .dat)) pu ((us.map PyData.int).map .dat)) pu ((us.map PyData.int).map .dat ++ [.dat (.int (i : Nat))]) = put (put Ω pd ((encD x.ds).map .dat)) pu (((us ++ [(i : Int)]).map PyData.int).map .dat) := by
      rw [put_put, List.map_append, List.map_append]
      rfl
    rw [eu]
    have eix : atI (rs.map Rw.enc) ((i : Nat) : Int) = some r.enc := atI_nat' (by rw [List.getElem?_map, er]; rfl)
    obtain ⟨rm, rf, rl, rsg, ro', rd, ra⟩ := r
    refine s_seq (s_asg (e_op (e_op (e_var rfl (e_var rfl (r_ixT eix (e_int (r_ixT rfl ?_))))))))
    refine s_seq (s_asg (e_op (e_op (e_var rfl (e_var rfl (r_ixT eix (e_int (r_ixT rfl ?_))))))))
    cases rd with
    | go =>
      replace eX := eX.trans (if_pos rfl)
      rw [eX]
      exact s_seq (s_if (t_test (e_op (e_var rfl (e_str (r_eq rfl ⟨_, rfl, (fun _ => s_brk ⟨_, _, _, _, _, rfl, rfl, (by show x.ds.length ≤ 4; omega)⟩), (fun z => absurd (show eqD (.str Deed.go.str) (.str "go") = false from z) (by decide))⟩))))))
    | group =>
      replace eX := eX.trans (if_neg (show ¬ Deed.group = Deed.go by decide))
      obtain ⟨z, t, hl, hz⟩ := feas_group hfe
      have z1 := zx z (by rw [hl]; exact List.mem_cons_self ..)
      rw [hl]
      refine s_seq (s_if (t_test (e_op (e_var rfl (e_str (r_eq rfl ⟨_, rfl, (fun z => absurd (show eqD (.str Deed.group.str) (.str "go") = true from z) (by decide)), (fun _ => s_next ?_)⟩))))))
      refine s_seq (s_asg (e_int ?_))
      refine s_seq (s_if (t_test (e_op (e_var rfl (e_str (r_eq rfl ⟨_, rfl, (fun _ => ?_), (fun z => absurd (show eqD (.str Deed.group.str) (.str "group") = false from z) (by decide))⟩))))))
      refine s_seq (s_asg (e_op (e_var rfl (e_int (r_ixT (d := .int z) (atI_nat' (i := 0) rfl) ?_)))))
      refine s_asg (e_slT (e_var rfl ⟨_, rfl, o_some (e_int ⟨_, rfl, o_no ?_⟩)⟩))
      rw [cut1]
      refine s_seq (s_aug rfl (e_var rfl ⟨_, rfl, ?_⟩))
      refine s_drop (e_app (e_var rfl ⟨pd, rfl, ⟨_, by rw [put_ne ne.symm, put_same]⟩, a_cons (e_tupD (a_cons (e_var rfl (a_cons (e_var rfl (a_nil ⟨_, .cons (.cons .nil), rfl, a_nil ⟨_, _, rfl, by rw [put_ne ne.symm, put_same], by rw [List.length_map, List.length_map]; omega, ?_⟩⟩))))))⟩))
      refine ⟨n, Nat.lt_succ_self n, ⟨t, x.sg, ra, x.left - z, x.ds ++ [(Deed.group, z)]⟩, us ++ [(i : Int)], _, _, _, _, ?_, by show x.left - z < n; omega, by show 0 ≤ x.left - z; omega, fun y hy => zx y (by rw [hl]; exact List.mem_cons_of_mem _ hy), by show ((x.ds ++ [(Deed.group, z)]).length : Int) + (x.left - z) ≤ 4; rw [List.length_append]; show ((x.ds.length + 1 : Nat) : Int) + _ ≤ 4; omega, by show (us ++ [(i : Int)]).length ≤ (x.ds ++ [(Deed.group, z)]).length; rw [List.length_append, List.length_append]; show us.length + 1 ≤ x.ds.length + 1; omega, rfl, ?_⟩
      · rw [eX]
        unfold stepF
        rw [hl]
        rfl
      · rw [put_comm ne, put_put]
        show put (put Ω pd ((encD x.ds).map .dat ++ [.dat (.tuple [.str "group", .int z])])) pu _ = put (put Ω pd ((encD (x.ds ++ [(Deed.group, z)])).map .dat)) pu _
        rw [show (encD (x.ds ++ [(Deed.group, z)])).map Av.dat = (encD x.ds).map Av.dat ++ [.dat (.tuple [.str "group", .int z])] by rw [show encD (x.ds ++ [(Deed.group, z)]) = encD x.ds ++ [.tuple [.str "group", .int z]] from List.map_append, List.map_append]; rfl]
    | single =>
      replace eX := eX.trans (if_neg (show ¬ Deed.single = Deed.go by decide))
      obtain ⟨hg, hz⟩ := feas_single hfe
      refine s_seq (s_if (t_test (e_op (e_var rfl (e_str (r_eq rfl ⟨_, rfl, (fun z => absurd (show eqD (.str Deed.single.str) (.str "go") = true from z) (by decide)), (fun _ => s_next ?_)⟩))))))
      refine s_seq (s_asg (e_int ?_))
      refine s_seq (s_if (t_test (e_op (e_var rfl (e_str (r_eq rfl ⟨_, rfl, (fun z => absurd (show eqD (.str Deed.single.str) (.str "group") = true from z) (by decide)), (fun _ => ?_)⟩))))))
      refine s_aug rfl (e_int ⟨_, rfl, ?_⟩)
      refine s_seq (s_aug rfl (e_var rfl ⟨_, rfl, ?_⟩))
      refine s_drop (e_app (e_var rfl ⟨pd, rfl, ⟨_, by rw [put_ne ne.symm, put_same]⟩, a_cons (e_tupD (a_cons (e_var rfl (a_cons (e_var rfl (a_nil ⟨_, .cons (.cons .nil), rfl, a_nil ⟨_, _, rfl, by rw [put_ne ne.symm, put_same], by rw [List.length_map, List.length_map]; omega, ?_⟩⟩))))))⟩))
      refine ⟨n, Nat.lt_succ_self n, ⟨x.line, x.sg - 1, ra, x.left - 1, x.ds ++ [(Deed.single, 1)]⟩, us ++ [(i : Int)], _, _, _, _, eX, by show x.left - 1 < n; omega, by show 0 ≤ x.left - 1; omega, zx, by show ((x.ds ++ [(Deed.single, 1)]).length : Int) + (x.left - 1) ≤ 4; rw [List.length_append]; show ((x.ds.length + 1 : Nat) : Int) + _ ≤ 4; omega, by show (us ++ [(i : Int)]).length ≤ (x.ds ++ [(Deed.single, 1)]).length; rw [List.length_append, List.length_append]; show us.length + 1 ≤ x.ds.length + 1; omega, rfl, ?_⟩
      rw [put_comm ne, put_put]
      show put (put Ω pd ((encD x.ds).map .dat ++ [.dat (.tuple [.str "single", .int 1])])) pu _ = put (put Ω pd ((encD (x.ds ++ [(Deed.single, 1)])).map .dat)) pu _
      rw [show (encD (x.ds ++ [(Deed.single, (1 : Int))])).map Av.dat = (encD x.ds).map Av.dat ++ [.dat (.tuple [.str "single", .int 1])] by rw [show encD (x.ds ++ [(Deed.single, (1 : Int))]) = encD x.ds ++ [.tuple [.str "single", .int 1]] from List.map_append, List.map_append]; rfl]
  rintro Γ' Ω' ⟨us, a, b, c, d, rfl, rfl, ld⟩
  refine s_frz 9 rfl put_same ?_
  rw [del_put (by rw [put_ne ne]; exact nu')]
  refine s_ret (e_tupD (a_cons (e_tupD (a_cons (e_var rfl (a_cons (e_var rfl (a_cons (e_var rfl (a_nil ⟨_, .cons (.cons (.cons .nil)), rfl, ?_⟩))))))))))
  refine a_cons (e_then (e_var rfl (r_tupP put_same ?_)))
  rw [del_put nd]
  refine a_cons (EW.mono (P := fun a Ω' => a = .dat (.int (emptyF X)) ∧ Ω' = Ω) ?_ ?_)
  · match hxl : X.line with
    | [] =>
      refine e_if (t_or (t_truT (e_var rfl ⟨_, rfl, nofun, fun _ => t_test (e_op (e_var rfl (e_int (r_I0b ⟨_, rfl, (fun z => e_var rfl ⟨?_, rfl⟩), (fun z => e_int ⟨?_, rfl⟩)⟩))))⟩)))
      · unfold emptyF
        rw [hxl, z]
        rfl
      · unfold emptyF
        rw [hxl, z]
        rfl
    | z :: t =>
      refine e_if (t_or (t_truT (e_var rfl ⟨_, rfl, (fun _ => ⟨(fun _ => e_var rfl ⟨?_, rfl⟩), nofun⟩), nofun⟩)))
      unfold emptyF
      rw [hxl]
      rfl
  rintro _ _ ⟨rfl, rfl⟩
  exact a_cons (e_var rfl (a_nil ⟨_, .cons (.cons (.cons (.cons .nil))), rfl, h us⟩))
end
end K20

set_option Elab.async false
set_option linter.all false
set_option maxRecDepth 100000
set_option maxHeartbeats 1000000
namespace K20
open PySem PySem.Spec PyProof.Rows L2 Dat LamX Clo
local macro_rules | `(tactic| trivial) => `(tactic| (first
  | (with_reducible refine s_seq ?_)
  | (with_reducible refine s_asg ?_)
  | (with_reducible refine s_ret ?_)
  | (with_reducible refine s_drop ?_)
  | (with_reducible refine s_next ?_)
  | (with_reducible refine s_retN ?_)
  | (with_reducible refine s_brk ?_)
  | (with_reducible refine s_cont ?_)
  | (with_reducible refine s_if ?_)
  | (with_reducible refine e_int ?_)
  | (with_reducible refine e_str ?_)
  | (with_reducible refine e_bl ?_)
  | (with_reducible refine e_non ?_)
  | (with_reducible refine e_ty ?_)
  | (with_reducible refine e_tupD ?_)
  | (with_reducible refine e_lstD ?_)
  | (with_reducible refine e_op ?_)
  | (with_reducible refine e_un ?_)
  | (with_reducible refine e_then ?_)
  | (with_reducible refine e_cb ?_)
  | (with_reducible refine e_call ?_)
  | (with_reducible refine e_if ?_)
  | (with_reducible refine e_chain ?_)
  | (with_reducible refine e_andV ?_)
  | (with_reducible refine e_orV ?_)
  | (with_reducible refine e_notV ?_)
  | (with_reducible refine a_cons ?_)
  | (with_reducible refine a_nil ?_)
  | (with_reducible refine t_test ?_)
  | (with_reducible refine t_B ?_)
  | (with_reducible refine t_not ?_)
  | (with_reducible refine t_and ?_)
  | (with_reducible refine t_or ?_)
  | (with_reducible refine r_I0i ?_)
  | (with_reducible refine r_I0b ?_)
  | (with_reducible refine r_neg ?_)
  | (with_reducible refine r_isN ?_)
  | (with_reducible refine r_notN ?_)
  | (with_reducible refine c_lenT ?_)
  | (with_reducible refine c_lenL ?_)
  | (with_reducible refine c_intI ?_)
  | (with_reducible refine c_intB ?_)
  | (with_reducible refine c_max2 ?_)
  | (with_reducible refine c_min2 ?_)
  | (with_reducible refine c_abs ?_)
  | (with_reducible refine r_tupL ?_)
  | (with_reducible refine r_tupT ?_)
  | (with_reducible refine c_allM ?_)
  | ((with_reducible apply e_var); (exact rfl))
  | ((with_reducible refine r_eq ?_ ?_); (exact rfl))
  | ((with_reducible refine r_ne ?_ ?_); (exact rfl))
  | (with_reducible refine c_isi kit_int ?_)
  | (with_reducible refine c_isi kit_bool ?_)
  | (with_reducible refine c_isi kit_tuple ?_)
  | (with_reducible refine c_isi kit_list ?_)
  | (with_reducible refine c_isi kit_str ?_)
  | ((with_reducible apply r_ixT); (exact rfl))
  | ((with_reducible apply dats_pack); (iterate 40 (first | exact Dats.nil | apply Dats.cons | skip)); (exact rfl))
  | (with_reducible refine s_asgG ?_) | (with_reducible refine g_name ?_) | ((with_reducible refine g_tup ?_ ?_); (exact rfl)) | (refine gs_nil ?_) | (refine gs_cons ?_) | (with_reducible refine ⟨rfl, ?_⟩)
  | (refine ⟨_, rfl, ?_⟩) | (refine ⟨_, _, rfl, ?_⟩) | (refine ⟨_, _, _, rfl, ?_⟩) | (with_reducible refine ⟨fun _ => ?_, fun _ => ?_⟩) | fail))
section
variable {P : Program} {w : World} {K : PySem.W.Frag} [Tb K] {mg : Str → Option Value} {base : Heap}
abbrev spBeat : ASp := fun as Ω P => ∃ (s : Shop) (rs : List Rw) (t : St) (c : Com), as = [.dat s.enc, .dat (rules rs), .dat t.enc, .dat c.enc, .dat (.int 0)] ∧ s.Ok ∧ RsOk rs ∧ StOk s t ∧ c.Ok s ∧
  ∀ u, P (.dat (.tuple [St.enc (stOf (beatF s rs t c)), (beatW s rs t c).enc, u])) Ω
theorem ok_beat (T : Top K mg) : FnOk P w K mg base CX0 4 T.f_bench_beat T.d_bench_beat ["setup", "rule", "standing", "comers", "portions"] (spA K spBeat) := by
  have G_fill_bench : FnOk P w K mg base CX0 3 T.f_fill_bench T.d_fill_bench ["setup", "rule", "standing", "portions"] (spA K spFill) := ok_fill T
  have G_come_in : FnOk P w K mg base CX0 1 T.f_come_in T.d_come_in ["setup", "line", "singles", "comers"] (spA K spCome) := ok_come T
  refine fnA_ok T.D_bench_beat.F sc_bench_beat (fun as Ω P ⟨s, rs, t, c, e, _⟩ => by subst e; rfl) (fun cdv A outer s H E hr => ?_)
  refine ⟨_, (pss_cons (ps_asg (pe_call G_come_in (hr.mono (by omega)) rfl T.D_come_in.g T.D_come_in.F.kp T.D_come_in.b .nil pass0 (pa_cons (pv 0) (pa_cons (pe_ix (Dat.ixT (K := K) rfl) (pv 2) pe_int (fun _ _ => rfl)) (pa_cons (pe_ix (Dat.ixT (K := K) rfl) (pv 2) pe_int (fun _ _ => rfl)) (pa_cons (pv 3) pa_nil))))) (Dat.pgT (K := K) (n := 3) rfl rfl (pgs_cons (pg_name (i := 5) sc_bench_beat.nd rfl (.inl rfl)) (pgs_cons (pg_name (i := 6) sc_bench_beat.nd rfl (.inl rfl)) (pgs_cons (pg_name (i := 7) sc_bench_beat.nd rfl (.inl rfl)) pgs_nil)))))
    (pss_cons (ps_asg (pe_call G_fill_bench (hr.mono (by omega)) rfl T.D_fill_bench.g T.D_fill_bench.F.kp T.D_fill_bench.b .nil pass0 (pa_cons (pv 0) (pa_cons (pv 1) (pa_cons (pe_tup (pa_cons (pv 5) (pa_cons (pv 6) (pa_cons (pe_ix (Dat.ixT (K := K) rfl) (pv 2) pe_int (fun _ _ => rfl)) pa_nil)))) (pa_cons (pv 4) pa_nil))))) (Dat.pgT (K := K) (n := 4) rfl rfl (pgs_cons (pg_name (i := 8) sc_bench_beat.nd rfl (.inl rfl)) (pgs_cons (pg_name (i := 9) sc_bench_beat.nd rfl (.inl rfl)) (pgs_cons (pg_name (i := 10) sc_bench_beat.nd rfl (.inl rfl)) (pgs_cons (pg_name (i := 11) sc_bench_beat.nd rfl (.inl rfl)) pgs_nil))))))
    (pss_one (ps_ret (pe_tup (pa_cons (pv 8) (pa_cons (pe_tup (pa_cons (pv 9) (pa_cons (pv 10) (pa_cons (pv 7) pa_nil)))) (pa_cons (pv 11) pa_nil)))))))), ?_⟩
  rintro as Ω P ⟨s, rs, t, c, rfl, so, ro, to, co, h⟩
  have tl := to.l
  refine s_seq (s_asgG (e_call (a_cons (e_var rfl (a_cons (e_op (e_var rfl (e_int (r_ixT rfl (a_cons (e_op (e_var rfl (e_int (r_ixT rfl (a_cons (e_var rfl (a_nil ⟨s, t.line, t.sg, c, rfl, so, co, by omega, ?_⟩)))))))))))))))))
  refine g_tup rfl (gs_cons (g_name ⟨rfl, gs_cons (g_name ⟨rfl, gs_cons (g_name ⟨rfl, gs_nil ?_⟩)⟩)⟩))
  have hz := comeL_ok so co.z to.z to.l (x := (t.line, 0))
  refine s_seq (s_asgG (e_call (a_cons (e_var rfl (a_cons (e_var rfl (a_cons (e_tupD (a_cons (e_var rfl (a_cons (e_var rfl (a_cons (e_op (e_var rfl (e_int (r_ixT rfl (a_nil ⟨_, .cons (.cons (.cons .nil)), rfl, a_cons (e_var rfl (a_nil ⟨s, rs, _, _, _, rfl, so, ro, hz.1, fun us => ?_⟩))⟩))))))))))))))))))
  refine g_tup rfl (gs_cons (g_name ⟨rfl, gs_cons (g_name ⟨rfl, gs_cons (g_name ⟨rfl, gs_cons (g_name ⟨rfl, gs_nil ?_⟩)⟩)⟩)⟩))
  exact s_ret (e_tupD (a_cons (e_var rfl (a_cons (e_tupD (a_cons (e_var rfl (a_cons (e_var rfl (a_cons (e_var rfl (a_nil ⟨_, .cons (.cons (.cons .nil)), rfl, a_cons (e_var rfl (a_nil ⟨_, .cons (.cons (.cons .nil)), rfl, h _⟩))⟩))))))))))))
def t0 : St := ⟨[], 0, 0⟩
theorem t0_ok {s : Shop} (so : s.Ok) : StOk s t0 := ⟨nofun, by decide, by decide, so.r20, by decide, by decide⟩
theorem run_snoc {s : Shop} {rs : List Rw} {cs : List Com} {i : Nat} {c : Com} {x : St × List Wd} (e : cs[i]? = some c) : run s rs (cs.drop i) x = run s rs (cs.drop (i + 1)) (stOf (beatF s rs x.1 c), x.2 ++ [beatW s rs x.1 c]) := by
  obtain ⟨hi, hg⟩ := List.getElem?_eq_some_iff.mp e
  rw [List.drop_eq_getElem_cons hi, hg]
  rfl
abbrev encW (ws : List Wd) : List Av := (ws.map Wd.enc).map .dat
abbrev spRun : ASp := fun as Ω P => ∃ (s : Shop) (rs : List Rw) (cs : List Com), as = [.dat s.enc, .dat (rules rs), .dat (.list (cs.map Com.enc))] ∧ s.Ok ∧ RsOk rs ∧ (∀ c ∈ cs, c.Ok s) ∧ cs.length ≤ 200 ∧
  ∀ p, Ω p = none → P (.tup [.dat (run s rs cs (t0, [])).1.enc, .ptr p]) (put Ω p (encW (run s rs cs (t0, [])).2))
theorem com_at {cs : List Com} {i : Nat} {a : Av} (h : ((cs.map Com.enc).map Av.dat)[i]? = some a) : ∃ c, cs[i]? = some c ∧ a = .dat c.enc := by
  rw [List.getElem?_map, List.getElem?_map] at h
  cases e : cs[i]? with
  | none => rw [e] at h; cases h
  | some r =>
    rw [e] at h
    cases h
    exact ⟨r, rfl, rfl⟩
theorem ok_run (T : Top K mg) : FnOk P w K mg base CX0 5 T.f_run_bench T.d_run_bench ["setup", "seats", "row"] (spA K spRun) := by
  have G_bench_beat : FnOk P w K mg base CX0 4 T.f_bench_beat T.d_bench_beat ["setup", "rule", "standing", "comers", "portions"] (spA K spBeat) := ok_beat T
  refine fnA_ok T.D_run_bench.F sc_run_bench (fun as Ω P ⟨s, rs, cs, e, _⟩ => by subst e; rfl) (fun cdv A outer s H E hr => ?_)
  refine ⟨_, (pss_cons (ps_set (i := 3) sc_run_bench.nd rfl (.inl rfl) (pe_glob (v := .ref T.p_NOBODY) rfl T.c_NOBODY rfl))
    (pss_cons (ps_set (i := 4) sc_run_bench.nd rfl (.inl rfl) (pe_lst pa_nil))
    (pss_cons (ps_for PassesOwn.never rfl (Dat.piL (K := K) rfl (pv 2)) (pg_name (i := 5) sc_run_bench.nd rfl (.inl rfl))
      (pss_cons (ps_asg (pe_call G_bench_beat (hr.mono (by omega)) rfl T.D_bench_beat.g T.D_bench_beat.F.kp T.D_bench_beat.b .nil pass0 (pa_cons (pv 0) (pa_cons (pv 1) (pa_cons (pv 3) (pa_cons (pv 5) (pa_cons pe_int pa_nil)))))) (Dat.pgT (K := K) (n := 3) rfl rfl (pgs_cons (pg_name (i := 3) sc_run_bench.nd rfl (.inl rfl)) (pgs_cons (pg_name (i := 6) sc_run_bench.nd rfl (.inl rfl)) (pgs_cons (pg_name (i := 7) sc_run_bench.nd rfl (.inl rfl)) pgs_nil)))))
      (pss_one (ps_expr (Dat.appQ (K := K) rfl (pv 4) (pa_cons (pv 6) pa_nil))))))
    (pss_one (ps_ret (pe_tup (pa_cons (pv 3) (pa_cons (pv 4) pa_nil)))))))), ?_⟩
  rintro as Ω P ⟨s, rs, cs, rfl, so, ro, co, hl, h⟩
  refine s_seq (s_asg (e_K T.v_NOBODY ?_))
  refine s_seq (s_asg (e_lstP (a_nil ⟨by simp, fun p np => ?_⟩)))
  refine s_seqM (fun Γ' Ω' => ∃ x y z, Γ' = [some (.dat s.enc), some (.dat (rules rs)), some (.dat (.list (cs.map Com.enc))), some (.dat (run s rs cs (t0, [])).1.enc), some (.ptr p), x, y, z] ∧ Ω' = put Ω p (encW (run s rs cs (t0, [])).2)) ?_ ?_
  · refine s_for (fun as i Γ' Ω' => as = (cs.map Com.enc).map .dat ∧ ∃ (t : St) (ws : List Wd) (x y z : Option Av), run s rs cs (t0, []) = run s rs (cs.drop i) (t, ws) ∧ StOk s t ∧ ws.length = i ∧ Γ' = [some (.dat s.enc), some (.dat (rules rs)), some (.dat (.list (cs.map Com.enc))), some (.dat t.enc), some (.ptr p), x, y, z] ∧ Ω' = put Ω p (encW ws)) ?_
    refine i_list (e_var rfl ⟨_, rfl, ⟨rfl, t0, [], _, _, _, rfl, t0_ok so, rfl, rfl, rfl⟩, ?_, ?_⟩)
    · rintro i it Γ' Ω' hit ⟨_, t, ws, x, y, z, hr, to, lw, rfl, rfl⟩
      obtain ⟨c, ec, rfl⟩ := com_at hit
      have hi := (List.getElem?_eq_some_iff.mp ec).1
      have oc := co c (List.mem_of_getElem? ec)
      refine g_name (s_seq (s_asgG (e_call (a_cons (e_var rfl (a_cons (e_var rfl (a_cons (e_var rfl (a_cons (e_var rfl (a_cons (e_int (a_nil ⟨s, rs, t, c, rfl, so, ro, to, oc, fun u => ?_⟩))))))))))))))
      refine g_tup rfl (gs_cons (g_name ⟨rfl, gs_cons (g_name ⟨rfl, gs_cons (g_name ⟨rfl, gs_nil ?_⟩)⟩)⟩))
      refine s_drop (e_app (e_var rfl ⟨p, rfl, ⟨_, put_same⟩, a_cons (e_var rfl (a_nil ⟨_, _, rfl, put_same, by rw [List.length_map, List.length_map]; omega, ?_⟩))⟩))
      refine ⟨rfl, stOf (beatF s rs t c), ws ++ [beatW s rs t c], _, _, _, hr.trans (run_snoc ec), (beat_ok so ro oc to).st, by rw [List.length_append, lw]; rfl, rfl, ?_⟩
      rw [put_put, show encW (ws ++ [beatW s rs t c]) = encW ws ++ [.dat (beatW s rs t c).enc] by rw [encW, List.map_append, List.map_append]; rfl]
    · rintro Γ' Ω' ⟨_, t, ws, x, y, z, hr, to, lw, rfl, rfl⟩
      rw [List.length_map, List.length_map, List.drop_length] at hr
      rw [hr]
      exact ⟨x, y, z, rfl, rfl⟩
  rintro Γ' Ω' ⟨x, y, z, rfl, rfl⟩
  exact s_ret (e_tupA (a_cons (e_var rfl (a_cons (e_var rfl (a_nil ⟨by simp, h p np⟩))))))
abbrev spSeatsOf : ASp := fun as Ω P => ∃ (s : Shop) (rs : List Rw) (cs : List Com), as = [.dat s.enc, .dat (rules rs), .dat (.list (cs.map Com.enc))] ∧ s.Ok ∧ RsOk rs ∧ (∀ c ∈ cs, c.Ok s) ∧ cs.length ≤ 200 ∧
  ∀ p, Ω p = none → P (.ptr p) (put Ω p (encW (run s rs cs (t0, [])).2))
theorem ok_seats_of (T : Top K mg) {Pw : Addr} (TB : TabB base mg T.cw Pw) (hT : Tb.T (K := K) = [(Pw, lamQ)]) : FnOk P w K mg base CX0 8 T.f_seats_of T.d_seats_of ["setup", "seats", "row"] (spA K spSeatsOf) := by
  have G_run_bench : FnOk P w K mg base CX0 5 T.f_run_bench T.d_run_bench ["setup", "seats", "row"] (spA K spRun) := ok_run T
  have G_check_row : FnOk P w K mg base CX0 6 T.f_check_row T.d_check_row ["setup", "thing", "most"] (spA K spChkRow) := ok_check_row T TB hT
  have G_check_setup : FnOk P w K mg base CX0 5 T.f_check_setup T.d_check_setup ["thing"] (spA K spChk) := ok_check_setup T
  have G_check_seats : FnOk P w K mg base CX0 7 T.f_check_seats T.d_check_seats ["thing"] (spA K (spRs .none)) := ok_check_seats T
  have G_check_deaf : FnOk P w K mg base CX0 2 T.f_check_deaf T.d_check_deaf ["rule"] (spA K (spRs .none)) := ok_check_deaf T
  obtain ⟨dsv, hvd, hbd⟩ := T.D_check_row.b
  refine fnA_ok T.D_seats_of.F sc_seats_of (fun as Ω P ⟨s, rs, cs, e, _⟩ => by subst e; rfl) (fun cdv A outer s H E hr => ?_)
  refine ⟨_, (pss_cons (ps_expr (pe_call G_check_setup (hr.mono (by omega)) rfl T.D_check_setup.g T.D_check_setup.F.kp T.D_check_setup.b .nil pass0 (pa_cons (pv 0) pa_nil)))
    (pss_cons (ps_expr (pe_call G_check_seats (hr.mono (by omega)) rfl T.D_check_seats.g T.D_check_seats.F.kp T.D_check_seats.b .nil pass0 (pa_cons (pv 1) pa_nil)))
    (pss_cons (ps_expr (pe_call (dvs := [.int 200]) G_check_row (hr.mono (by omega)) rfl T.D_check_row.g T.D_check_row.kp hbd hvd pass0 (pa_cons (pv 0) (pa_cons (pv 2) pa_nil))))
    (pss_cons (ps_expr (pe_call G_check_deaf (hr.mono (by omega)) rfl T.D_check_deaf.g T.D_check_deaf.F.kp T.D_check_deaf.b .nil pass0 (pa_cons (pv 1) pa_nil)))
    (pss_cons (ps_asg (pe_call G_run_bench (hr.mono (by omega)) rfl T.D_run_bench.g T.D_run_bench.F.kp T.D_run_bench.b .nil pass0 (pa_cons (pv 0) (pa_cons (pv 1) (pa_cons (pv 2) pa_nil)))) (Dat.pgT (K := K) (n := 2) rfl rfl (pgs_cons (pg_name (i := 3) sc_seats_of.nd rfl (.inl rfl)) (pgs_cons (pg_name (i := 4) sc_seats_of.nd rfl (.inl rfl)) pgs_nil))))
    (pss_one (ps_ret (pv 4)))))))), ?_⟩
  rintro as Ω P ⟨s, rs, cs, rfl, so, ro, co, hl, h⟩
  refine s_seq (s_drop (e_call (a_cons (e_var rfl (a_nil ⟨_, rfl, so.d, ?_⟩)))))
  refine s_seq (s_drop (e_call (a_cons (e_var rfl (a_nil ⟨rs, rfl, ro, ?_⟩)))))
  refine s_seq (s_drop (e_callD (das := [.dat (.int 200)]) (fun F => .cons (.dat (.int 200)) .nil) (a_cons (e_var rfl (a_cons (e_var rfl (a_nil ⟨s, cs, rfl, so, co, hl, ?_⟩)))))))
  refine s_seq (s_drop (e_call (a_cons (e_var rfl (a_nil ⟨rs, rfl, ro, ?_⟩)))))
  refine s_seq (s_asgG (e_call (a_cons (e_var rfl (a_cons (e_var rfl (a_cons (e_var rfl (a_nil ⟨s, rs, cs, rfl, so, ro, co, hl, fun p np => ?_⟩)))))))))
  refine g_tupA rfl (gs_cons (g_name ⟨rfl, gs_cons (g_name ⟨rfl, gs_nil ?_⟩)⟩))
  exact s_ret (e_var rfl (h p np))
abbrev spAfter : ASp := fun as Ω P => ∃ (s : Shop) (rs : List Rw) (cs : List Com), as = [.dat s.enc, .dat (rules rs), .dat (.list (cs.map Com.enc))] ∧ s.Ok ∧ RsOk rs ∧ (∀ c ∈ cs, c.Ok s) ∧ cs.length ≤ 200 ∧ P (.dat (run s rs cs (t0, [])).1.enc) Ω
theorem ok_seats_after (T : Top K mg) {Pw : Addr} (TB : TabB base mg T.cw Pw) (hT : Tb.T (K := K) = [(Pw, lamQ)]) : FnOk P w K mg base CX0 8 T.f_seats_after T.d_seats_after ["setup", "seats", "row"] (spA K spAfter) := by
  have G_run_bench : FnOk P w K mg base CX0 5 T.f_run_bench T.d_run_bench ["setup", "seats", "row"] (spA K spRun) := ok_run T
  have G_check_row : FnOk P w K mg base CX0 6 T.f_check_row T.d_check_row ["setup", "thing", "most"] (spA K spChkRow) := ok_check_row T TB hT
  have G_check_setup : FnOk P w K mg base CX0 5 T.f_check_setup T.d_check_setup ["thing"] (spA K spChk) := ok_check_setup T
  have G_check_seats : FnOk P w K mg base CX0 7 T.f_check_seats T.d_check_seats ["thing"] (spA K (spRs .none)) := ok_check_seats T
  have G_check_deaf : FnOk P w K mg base CX0 2 T.f_check_deaf T.d_check_deaf ["rule"] (spA K (spRs .none)) := ok_check_deaf T
  obtain ⟨dsv, hvd, hbd⟩ := T.D_check_row.b
  refine fnA_ok T.D_seats_after.F sc_seats_after (fun as Ω P ⟨s, rs, cs, e, _⟩ => by subst e; rfl) (fun cdv A outer s H E hr => ?_)
  refine ⟨_, (pss_cons (ps_expr (pe_call G_check_setup (hr.mono (by omega)) rfl T.D_check_setup.g T.D_check_setup.F.kp T.D_check_setup.b .nil pass0 (pa_cons (pv 0) pa_nil)))
    (pss_cons (ps_expr (pe_call G_check_seats (hr.mono (by omega)) rfl T.D_check_seats.g T.D_check_seats.F.kp T.D_check_seats.b .nil pass0 (pa_cons (pv 1) pa_nil)))
    (pss_cons (ps_expr (pe_call (dvs := [.int 200]) G_check_row (hr.mono (by omega)) rfl T.D_check_row.g T.D_check_row.kp hbd hvd pass0 (pa_cons (pv 0) (pa_cons (pv 2) pa_nil))))
    (pss_cons (ps_expr (pe_call G_check_deaf (hr.mono (by omega)) rfl T.D_check_deaf.g T.D_check_deaf.F.kp T.D_check_deaf.b .nil pass0 (pa_cons (pv 1) pa_nil)))
    (pss_cons (ps_asg (pe_call G_run_bench (hr.mono (by omega)) rfl T.D_run_bench.g T.D_run_bench.F.kp T.D_run_bench.b .nil pass0 (pa_cons (pv 0) (pa_cons (pv 1) (pa_cons (pv 2) pa_nil)))) (Dat.pgT (K := K) (n := 2) rfl rfl (pgs_cons (pg_name (i := 3) sc_seats_after.nd rfl (.inl rfl)) (pgs_cons (pg_name (i := 4) sc_seats_after.nd rfl (.inl rfl)) pgs_nil))))
    (pss_one (ps_ret (pv 3)))))))), ?_⟩
  rintro as Ω P ⟨s, rs, cs, rfl, so, ro, co, hl, h⟩
  refine s_seq (s_drop (e_call (a_cons (e_var rfl (a_nil ⟨_, rfl, so.d, ?_⟩)))))
  refine s_seq (s_drop (e_call (a_cons (e_var rfl (a_nil ⟨rs, rfl, ro, ?_⟩)))))
  refine s_seq (s_drop (e_callD (das := [.dat (.int 200)]) (fun F => .cons (.dat (.int 200)) .nil) (a_cons (e_var rfl (a_cons (e_var rfl (a_nil ⟨s, cs, rfl, so, co, hl, ?_⟩)))))))
  refine s_seq (s_drop (e_call (a_cons (e_var rfl (a_nil ⟨rs, rfl, ro, ?_⟩)))))
  refine s_seq (s_asgG (e_call (a_cons (e_var rfl (a_cons (e_var rfl (a_cons (e_var rfl (a_nil ⟨s, rs, cs, rfl, so, ro, co, hl, fun p np => ?_⟩)))))))))
  refine g_tupA rfl (gs_cons (g_name ⟨rfl, gs_cons (g_name ⟨rfl, gs_nil ?_⟩)⟩))
  refine s_forget (ds := (run s rs cs (t0, [])).2.map Wd.enc) put_same ?_
  rw [del_put np]
  exact s_ret (e_var rfl h)
end
end K20

set_option Elab.async false
set_option linter.all false
set_option maxRecDepth 100000
set_option maxHeartbeats 1000000
namespace K20
open PySem PySem.Spec PyProof.Rows L2 Dat LamX Clo
local macro_rules | `(tactic| trivial) => `(tactic| (first
  | (with_reducible refine s_seq ?_)
  | (with_reducible refine s_asg ?_)
  | (with_reducible refine s_ret ?_)
  | (with_reducible refine s_drop ?_)
  | (with_reducible refine s_next ?_)
  | (with_reducible refine s_retN ?_)
  | (with_reducible refine s_brk ?_)
  | (with_reducible refine s_cont ?_)
  | (with_reducible refine s_if ?_)
  | (with_reducible refine e_int ?_)
  | (with_reducible refine e_str ?_)
  | (with_reducible refine e_bl ?_)
  | (with_reducible refine e_non ?_)
  | (with_reducible refine e_ty ?_)
  | (with_reducible refine e_tupD ?_)
  | (with_reducible refine e_lstD ?_)
  | (with_reducible refine e_op ?_)
  | (with_reducible refine e_un ?_)
  | (with_reducible refine e_then ?_)
  | (with_reducible refine e_cb ?_)
  | (with_reducible refine e_call ?_)
  | (with_reducible refine e_if ?_)
  | (with_reducible refine e_chain ?_)
  | (with_reducible refine e_andV ?_)
  | (with_reducible refine e_orV ?_)
  | (with_reducible refine e_notV ?_)
  | (with_reducible refine a_cons ?_)
  | (with_reducible refine a_nil ?_)
  | (with_reducible refine t_test ?_)
  | (with_reducible refine t_B ?_)
  | (with_reducible refine t_not ?_)
  | (with_reducible refine t_and ?_)
  | (with_reducible refine t_or ?_)
  | (with_reducible refine r_I0i ?_)
  | (with_reducible refine r_I0b ?_)
  | (with_reducible refine r_neg ?_)
  | (with_reducible refine r_isN ?_)
  | (with_reducible refine r_notN ?_)
  | (with_reducible refine c_lenT ?_)
  | (with_reducible refine c_lenL ?_)
  | (with_reducible refine c_intI ?_)
  | (with_reducible refine c_intB ?_)
  | (with_reducible refine c_max2 ?_)
  | (with_reducible refine c_min2 ?_)
  | (with_reducible refine c_abs ?_)
  | (with_reducible refine r_tupL ?_)
  | (with_reducible refine r_tupT ?_)
  | (with_reducible refine c_allM ?_)
  | ((with_reducible apply e_var); (exact rfl))
  | ((with_reducible refine r_eq ?_ ?_); (exact rfl))
  | ((with_reducible refine r_ne ?_ ?_); (exact rfl))
  | (with_reducible refine c_isi kit_int ?_)
  | (with_reducible refine c_isi kit_bool ?_)
  | (with_reducible refine c_isi kit_tuple ?_)
  | (with_reducible refine c_isi kit_list ?_)
  | (with_reducible refine c_isi kit_str ?_)
  | ((with_reducible apply r_ixT); (exact rfl))
  | ((with_reducible apply dats_pack); (iterate 40 (first | exact Dats.nil | apply Dats.cons | skip)); (exact rfl))
  | (with_reducible refine s_asgG ?_) | (with_reducible refine g_name ?_) | ((with_reducible refine g_tup ?_ ?_); (exact rfl)) | (refine gs_nil ?_) | (refine gs_cons ?_) | (with_reducible refine ⟨rfl, ?_⟩)
  | (refine ⟨_, rfl, ?_⟩) | (refine ⟨_, _, rfl, ?_⟩) | (refine ⟨_, _, _, rfl, ?_⟩) | (with_reducible refine ⟨fun _ => ?_, fun _ => ?_⟩) | fail))
section
variable {P : Program} {w : World} {K : PySem.W.Frag} [Tb K] {mg : Str → Option Value} {base : Heap}
/-! ### the law's own bench -/
abbrev spLF : ASp := fun as Ω P => ∃ (r : Rw) (line : List Int) (sg left por mood : Int), as = [.dat r.enc, .dat (.list ([front line, left, sg, por].map PyData.int)), .dat (.int mood)] ∧ (∀ z ∈ line, 1 ≤ z) ∧ P (.dat (.bool (fits line sg left por mood r))) Ω
def spanAt (r : Rw) : Nat → Int × Int
  | 0 => r.f
  | 1 => r.l
  | 2 => r.s
  | _ => r.o
def lookAt (line : List Int) (sg left por : Int) : Nat → Int
  | 0 => front line
  | 1 => left
  | 2 => sg
  | _ => por
theorem within_dec (x : Int) (p : Int × Int) : within1 x p = (decide (p.1 ≤ x) && decide (x ≤ p.2)) := by
  unfold within1
  rw [Bool.eq_iff_iff]
  simp only [Bool.not_eq_true', Bool.or_eq_false_iff, decide_eq_false_iff_not, Bool.and_eq_true, decide_eq_true_eq]
  omega
theorem ok_lfits (T : Top K mg) : FnOk P w K mg base CX0 1 T.f__law_fits T.d__law_fits ["_law_run", "_law_numbers", "_law_waits"] (spA K spLF) := by
  refine fnA_ok T.D__law_fits.F sc__law_fits (fun as Ω P ⟨r, line, sg, left, por, mood, e, _⟩ => by subst e; rfl) (fun cdv A outer s H E hr => ?_)
  refine ⟨_, (pss_cons (ps_asg (pe_slice (Dat.slL (K := K) rfl) (pv 1) po_none (po_some pe_int)) (Dat.pgLQ (K := K) (n := 3) rfl rfl (pgs_cons (pg_name (i := 3) sc__law_fits.nd rfl (.inl rfl)) (pgs_cons (pg_name (i := 4) sc__law_fits.nd rfl (.inl rfl)) (pgs_cons (pg_name (i := 5) sc__law_fits.nd rfl (.inl rfl)) pgs_nil)))))
    (pss_cons (ps_if (PW.pt (pw_or (pt_cmpR op_ne (pe_ix (Dat.ixT (K := K) rfl) (pv 0) pe_int (fun _ _ => rfl)) (pv 2) (nomark _)) (pw_or1 (pt_cmpR (Dat.neDQ (K := K) rfl (hu64 hr)) (pe_lc (own := [("_law_k", 6)]) (g := (gName 6)) (tt := _) rfl sc__law_fits.nd (pi_range1 rfl T.b_range (pa_cons pe_int pa_nil)) (blkOk_by (N := N__law_fits) (sc := defScope s__law_fits) (by decide +kernel)) (fun _ _ _ _ _ => (pg_name (i := 6) sc__law_fits.nd rfl (Or.inl rfl))) (fun _ _ _ _ _ => (pts_one (pt_not (pt_chain op_le op_le (pe_ix (Dat.ixT (K := K) rfl) (pe_ix (Dat.ixT (K := K) rfl) (pv 0) (pe_op op_add (pv 6) pe_int) (fun _ _ => rfl)) pe_int (fun _ _ => rfl)) (pe_ix (Dat.ixL (K := K) rfl) (pv 1) (pv 6) (fun _ _ => rfl)) (pe_ix (Dat.ixT (K := K) rfl) (pe_ix (Dat.ixT (K := K) rfl) (pv 0) (pe_op op_add (pv 6) pe_int) (fun _ _ => rfl)) pe_int (fun _ _ => rfl)))))) (fun _ _ _ _ _ => (pv 6))) (pe_lst pa_nil) (nomark _)))))
      (pss_one (ps_ret pe_bl))
      pss_nil)
    (pss_one (ps_ret (pe_ix (Dat.ixL (K := K) rfl) (pe_lst (pa_cons (pe_and (pe_cmpR op_gt (pv 3) pe_int (nomark _)) (pe_one (pe_cmpR op_le (pv 3) (pv 4) (nomark _)))) (pa_cons (pe_and (pe_cmpR op_gt (pv 5) pe_int (nomark _)) (pe_one (pe_cmpR op_gt (pv 4) pe_int (nomark _)))) (pa_cons pe_bl pa_nil)))) (Dat.indexQ (K := K) rfl (pe_lst (pa_cons pe_str (pa_cons pe_str (pa_cons pe_str pa_nil)))) (pa_cons (pe_ix (Dat.ixT (K := K) rfl) (pv 0) pe_int (fun _ _ => rfl)) pa_nil)) (fun _ _ => rfl)))))), ?_⟩
  rintro as Ω P ⟨r, line, sg, left, por, mood, rfl, lo, h⟩
  have e3 : Dat.cutD ([front line, left, sg, por].map PyData.int) none (some 3) = [.int (front line), .int left, .int sg] := rfl
  refine s_seq (s_asgG (e_slL (e_var rfl ⟨_, rfl, o_no (o_some (e_int ⟨_, rfl, ?_⟩))⟩)))
  rw [e3]
  refine g_lst rfl (gs_cons (g_name ⟨rfl, gs_cons (g_name ⟨rfl, gs_cons (g_name ⟨rfl, gs_nil ?_⟩)⟩)⟩))
  have hf : fits line sg left por mood r = (!((!decide (r.m = mood)) || !(((List.range 4).filter fun k => !within1 (lookAt line sg left por k) (spanAt r k)).map fun k => PyData.int (0 + (k : Nat))).isEmpty) && feas line sg left r.d) := by
    have e4 : (((List.range 4).filter fun k => !within1 (lookAt line sg left por k) (spanAt r k)).map fun k => PyData.int (0 + (k : Nat))).isEmpty = (within1 (front line) r.f && (within1 left r.l && (within1 sg r.s && within1 por r.o))) := by
      show (List.map _ (List.filter _ [0, 1, 2, 3])).isEmpty = _
      simp only [List.filter_cons, List.filter_nil, lookAt, spanAt]
      cases within1 (front line) r.f <;> cases within1 left r.l <;> cases within1 sg r.s <;> cases within1 por r.o <;> rfl
    rw [e4]
    unfold fits
    cases decide (r.m = mood) <;> cases feas line sg left r.d <;> cases within1 (front line) r.f <;> cases within1 left r.l <;> cases within1 sg r.s <;> cases within1 por r.o <;> rfl
  refine s_seq (s_ifB (b := (!decide (r.m = mood)) || !(((List.range 4).filter fun k => !within1 (lookAt line sg left por k) (spanAt r k)).map fun k => PyData.int (0 + (k : Nat))).isEmpty) (t_orB ?_ fun _ => ?_) (fun z => ?_) fun z => s_next ?_)
  · exact t_ofC (e_op (e_op (e_var rfl (e_int (r_ixT rfl (e_var rfl (r_ne rfl ⟨rfl, rfl⟩)))))))
  · refine t_ofC (e_op (e_lcF (List.range 4) (fun k => .dat (.int (0 + (k : Nat)))) (fun k => !within1 (lookAt line sg left por k) (spanAt r k)) (fun k => .int (0 + (k : Nat))) (gn_name (by decide)) (by decide) ?_))
    refine i_rng1 (a_cons (e_int (a_nil ⟨4, rfl, ⟨by decide, by decide⟩, rfl, fun k Ω' hk _ => g_name ⟨rfl, ?_⟩, ?_⟩)))
    · rw [within_dec]
      refine t_not (t_test (EW.mono (P := IsB (decide ((spanAt r k).1 ≤ lookAt line sg left por k) && decide (lookAt line sg left por k ≤ (spanAt r k).2)) Ω') ?_ fun a Ω2 ⟨e1, e2⟩ => ⟨_, e1, e2, rfl, fun _ => e_var rfl ⟨e2.symm ▸ rfl, rfl⟩⟩))
      have hk4 := List.mem_range.mp hk
      match k, hk4 with
      | 0, _ => exact e_chainB (e_op (e_op (e_var rfl (e_op (e_var rfl (e_int (r_I0i (r_ixT rfl (e_int (r_ixT rfl ⟨rfl, rfl⟩)))))))))) (e_op (e_var rfl (e_var rfl (r_ixL rfl ⟨rfl, rfl⟩)))) (e_op (e_op (e_var rfl (e_op (e_var rfl (e_int (r_I0i (r_ixT rfl (e_int (r_ixT rfl ⟨rfl, rfl⟩))))))))))
      | 1, _ => exact e_chainB (e_op (e_op (e_var rfl (e_op (e_var rfl (e_int (r_I0i (r_ixT rfl (e_int (r_ixT rfl ⟨rfl, rfl⟩)))))))))) (e_op (e_var rfl (e_var rfl (r_ixL rfl ⟨rfl, rfl⟩)))) (e_op (e_op (e_var rfl (e_op (e_var rfl (e_int (r_I0i (r_ixT rfl (e_int (r_ixT rfl ⟨rfl, rfl⟩))))))))))
      | 2, _ => exact e_chainB (e_op (e_op (e_var rfl (e_op (e_var rfl (e_int (r_I0i (r_ixT rfl (e_int (r_ixT rfl ⟨rfl, rfl⟩)))))))))) (e_op (e_var rfl (e_var rfl (r_ixL rfl ⟨rfl, rfl⟩)))) (e_op (e_op (e_var rfl (e_op (e_var rfl (e_int (r_I0i (r_ixT rfl (e_int (r_ixT rfl ⟨rfl, rfl⟩))))))))))
      | 3, _ => exact e_chainB (e_op (e_op (e_var rfl (e_op (e_var rfl (e_int (r_I0i (r_ixT rfl (e_int (r_ixT rfl ⟨rfl, rfl⟩)))))))))) (e_op (e_var rfl (e_var rfl (r_ixL rfl ⟨rfl, rfl⟩)))) (e_op (e_op (e_var rfl (e_op (e_var rfl (e_int (r_I0i (r_ixT rfl (e_int (r_ixT rfl ⟨rfl, rfl⟩))))))))))
    · refine e_lstD (a_nil ⟨[], .nil, rfl, r_neD ?_ rfl ?_⟩)
      · exact (Lay.lst (lay_map fun k _ => Lay.int _)).shaped (by decide)
      · rw [eqv_nil]
        exact ⟨rfl, rfl⟩
  · rw [hf, z] at h
    exact s_ret (e_bl h)
  rw [hf, z] at h
  have fr : (decide (front line > 0)) = !line.isEmpty := by
    cases line with
    | nil => rfl
    | cons y t =>
      have := lo y (List.mem_cons_self ..)
      exact decide_eq_true (show y > 0 by omega)
  refine s_ret (e_op (e_lst (a_cons (EW.mono (P := IsB (feas line sg left .group) Ω) ?_ ?_))))
  · have : feas line sg left .group = (decide (front line > 0) && decide (front line ≤ left)) := by rw [fr]; rfl
    rw [this]
    exact e_andB (e_op (e_var rfl (e_int (r_I0b ⟨rfl, rfl⟩)))) fun _ => e_op (e_var rfl (e_var rfl (r_I0b ⟨rfl, rfl⟩)))
  rintro a Ω2 ⟨ea, e2⟩
  obtain rfl := ea
  obtain rfl := e2.symm
  refine a_cons (EW.mono (P := IsB (feas line sg left .single) Ω) ?_ ?_)
  · exact e_andB (e_op (e_var rfl (e_int (r_I0b ⟨rfl, rfl⟩)))) fun _ => e_op (e_var rfl (e_int (r_I0b ⟨rfl, rfl⟩)))
  rintro a Ω2 ⟨ea, e2⟩
  obtain rfl := ea
  obtain rfl := e2.symm
  refine a_cons (e_bl (a_nil ⟨[.bool (feas line sg left .group), .bool (feas line sg left .single), .bool true], rfl, by simp, ?_⟩))
  obtain ⟨rm, rf, rl, rsg, ro', rd, ra⟩ := r
  refine e_idx (e_lstD (a_cons (e_str (a_cons (e_str (a_cons (e_str (a_nil ⟨[.str "group", .str "single", .str "go"], .cons (.cons (.cons .nil)), rfl, _, rfl, rfl, a_cons (e_op (e_var rfl (e_int (r_ixT rfl (a_nil ?_)))))⟩))))))))
  cases rd with
  | group => exact ⟨.str "group", .str "group", 0, rfl, rfl, rfl, by decide, (fun m e' hm => absurd hm (Nat.not_lt_zero _)), r_ixL rfl h⟩
  | single =>
    refine ⟨.str "single", .str "single", 1, rfl, rfl, rfl, by decide, (fun m e' hm e => ?_), r_ixL rfl h⟩
    obtain rfl : m = 0 := by omega
    cases e
    decide
  | go =>
    refine ⟨.str "go", .str "go", 2, rfl, rfl, rfl, by decide, (fun m e' hm e => ?_), r_ixL rfl h⟩
    rcases (show m = 0 ∨ m = 1 by omega) with rfl | rfl
    · cases e
      decide
    · cases e
      decide
end
end K20

set_option Elab.async false
set_option linter.all false
set_option maxRecDepth 100000
set_option maxHeartbeats 1000000
namespace K20
open PySem PySem.Spec PyProof.Rows L2 Dat LamX Clo
local macro_rules | `(tactic| trivial) => `(tactic| (first
  | (with_reducible refine s_seq ?_)
  | (with_reducible refine s_asg ?_)
  | (with_reducible refine s_ret ?_)
  | (with_reducible refine s_drop ?_)
  | (with_reducible refine s_next ?_)
  | (with_reducible refine s_retN ?_)
  | (with_reducible refine s_brk ?_)
  | (with_reducible refine s_cont ?_)
  | (with_reducible refine s_if ?_)
  | (with_reducible refine e_int ?_)
  | (with_reducible refine e_str ?_)
  | (with_reducible refine e_bl ?_)
  | (with_reducible refine e_non ?_)
  | (with_reducible refine e_ty ?_)
  | (with_reducible refine e_tupD ?_)
  | (with_reducible refine e_lstD ?_)
  | (with_reducible refine e_op ?_)
  | (with_reducible refine e_un ?_)
  | (with_reducible refine e_then ?_)
  | (with_reducible refine e_cb ?_)
  | (with_reducible refine e_call ?_)
  | (with_reducible refine e_if ?_)
  | (with_reducible refine e_chain ?_)
  | (with_reducible refine e_andV ?_)
  | (with_reducible refine e_orV ?_)
  | (with_reducible refine e_notV ?_)
  | (with_reducible refine a_cons ?_)
  | (with_reducible refine a_nil ?_)
  | (with_reducible refine t_test ?_)
  | (with_reducible refine t_B ?_)
  | (with_reducible refine t_not ?_)
  | (with_reducible refine t_and ?_)
  | (with_reducible refine t_or ?_)
  | (with_reducible refine r_I0i ?_)
  | (with_reducible refine r_I0b ?_)
  | (with_reducible refine r_neg ?_)
  | (with_reducible refine r_isN ?_)
  | (with_reducible refine r_notN ?_)
  | (with_reducible refine c_lenT ?_)
  | (with_reducible refine c_lenL ?_)
  | (with_reducible refine c_intI ?_)
  | (with_reducible refine c_intB ?_)
  | (with_reducible refine c_max2 ?_)
  | (with_reducible refine c_min2 ?_)
  | (with_reducible refine c_abs ?_)
  | (with_reducible refine r_tupL ?_)
  | (with_reducible refine r_tupT ?_)
  | (with_reducible refine c_allM ?_)
  | ((with_reducible apply e_var); (exact rfl))
  | ((with_reducible refine r_eq ?_ ?_); (exact rfl))
  | ((with_reducible refine r_ne ?_ ?_); (exact rfl))
  | (with_reducible refine c_isi kit_int ?_)
  | (with_reducible refine c_isi kit_bool ?_)
  | (with_reducible refine c_isi kit_tuple ?_)
  | (with_reducible refine c_isi kit_list ?_)
  | (with_reducible refine c_isi kit_str ?_)
  | ((with_reducible apply r_ixT); (exact rfl))
  | ((with_reducible apply dats_pack); (iterate 40 (first | exact Dats.nil | apply Dats.cons | skip)); (exact rfl))
  | (with_reducible refine s_asgG ?_) | (with_reducible refine g_name ?_) | ((with_reducible refine g_tup ?_ ?_); (exact rfl)) | (refine gs_nil ?_) | (refine gs_cons ?_) | (with_reducible refine ⟨rfl, ?_⟩)
  | (refine ⟨_, rfl, ?_⟩) | (refine ⟨_, _, rfl, ?_⟩) | (refine ⟨_, _, _, rfl, ?_⟩) | (with_reducible refine ⟨fun _ => ?_, fun _ => ?_⟩) | fail))
section
variable {P : Program} {w : World} {K : PySem.W.Frag} [Tb K] {mg : Str → Option Value} {base : Heap}
theorem put4 {Ω : AH} {p q : Addr} {A B C D : List Av} (n : q ≠ p) : put (put (put (put Ω p A) q B) p C) q D = put (put Ω p C) q D := by
  rw [K20.put_comm n, put_put, put_put]
theorem put3 {Ω : AH} {p q : Addr} {A B C : List Av} (n : q ≠ p) : put (put (put Ω p A) q B) p C = put (put Ω p C) q B := by
  rw [K20.put_comm n, put_put]
abbrev spLB : ASp := fun as Ω P => ∃ (s : Shop) (rs : List Rw) (t : St) (c : Com), as = [.dat s.enc, .dat (rules rs), .dat t.enc, .dat c.enc, .dat (.int 0)] ∧ s.Ok ∧ RsOk rs ∧ StOk s t ∧ c.Ok s ∧
  P (.dat (.tuple [St.enc (stOf (beatF s rs t c)), .tuple (encD (beatW s rs t c).ds), .int (beatW s rs t c).e, .int (beatW s rs t c).a])) Ω
theorem ok_lbeat (T : Top K mg) : FnOk P w K mg base CX0 2 T.f__law_beat T.d__law_beat ["_law_shop", "_law_pews", "_law_standing", "_law_comers_here", "_law_portions"] (spA K spLB) := by
  have G__law_fits : FnOk P w K mg base CX0 1 T.f__law_fits T.d__law_fits ["_law_run", "_law_numbers", "_law_waits"] (spA K spLF) := ok_lfits T
  refine fnA_ok T.D__law_beat.F sc__law_beat (fun as Ω P ⟨s, rs, t, c, e, _⟩ => by subst e; rfl) (fun cdv A outer s H E hr => ?_)
  refine ⟨_, (pss_cons (ps_asg (pe_tup (pa_cons (pe_callTy (Dat.listQ (K := K) rfl) rfl T.b_list bt_list (pa_cons (pe_ix (Dat.ixT (K := K) rfl) (pv 2) pe_int (fun _ _ => rfl)) pa_nil)) (pa_cons (pe_ix (Dat.ixT (K := K) rfl) (pv 2) pe_int (fun _ _ => rfl)) (pa_cons (pe_ix (Dat.ixT (K := K) rfl) (pv 2) pe_int (fun _ _ => rfl)) pa_nil)))) (Dat.pgT (K := K) (n := 3) rfl rfl (pgs_cons (pg_name (i := 5) sc__law_beat.nd rfl (.inl rfl)) (pgs_cons (pg_name (i := 6) sc__law_beat.nd rfl (.inl rfl)) (pgs_cons (pg_name (i := 7) sc__law_beat.nd rfl (.inr rfl)) pgs_nil)))))
    (pss_cons (ps_par3 (i := 8) (j := 9) (l := 10) rfl sc__law_beat.nd rfl rfl rfl (by decide) (by decide) (by decide) rfl rfl rfl (pa_cons pe_int (pa_cons (pe_ix (Dat.ixT (K := K) rfl) (pv 0) pe_int (fun _ _ => rfl)) (pa_cons (pe_lst pa_nil) pa_nil))) (by rfl))
    (pss_cons (ps_for PassesOwn.never rfl (Dat.piT (K := K) rfl (pe_ix (Dat.ixT (K := K) rfl) (pv 3) pe_int (fun _ _ => rfl))) (pg_name (i := 11) sc__law_beat.nd rfl (.inl rfl))
      (pss_one (ps_if (pt_cmpR op_lt (pe_callB (Dat.lenQ (K := K) rfl) rfl T.b_len bt_len (pa_cons (pv 5) pa_nil)) (pe_ix (Dat.ixT (K := K) rfl) (pe_ix (Dat.ixT (K := K) rfl) (pv 0) pe_int (fun _ _ => rfl)) pe_int (fun _ _ => rfl)) (nomark _))
        (pss_one (ps_expr (Dat.appQ (K := K) rfl (pv 5) (pa_cons (pv 11) pa_nil))))
        (pss_one (ps_set (i := 8) sc__law_beat.nd rfl (.inl rfl) (pe_op op_add (pv 8) (pv 11)))))))
    (pss_cons (ps_for PassesOwn.never rfl (pi_range1 rfl T.b_range (pa_cons (pe_ix (Dat.ixT (K := K) rfl) (pv 3) pe_int (fun _ _ => rfl)) pa_nil)) (pg_name (i := 12) sc__law_beat.nd rfl (.inl rfl))
      (pss_one (ps_if (pt_cmpR op_lt (pv 6) (pe_ix (Dat.ixT (K := K) rfl) (pe_ix (Dat.ixT (K := K) rfl) (pv 0) pe_int (fun _ _ => rfl)) pe_int (fun _ _ => rfl)) (nomark _))
        (pss_one (ps_set (i := 6) sc__law_beat.nd rfl (.inl rfl) (pe_op op_add (pv 6) pe_int)))
        (pss_one (ps_set (i := 8) sc__law_beat.nd rfl (.inl rfl) (pe_op op_add (pv 8) pe_int))))))
    (pss_cons (ps_for PassesOwn.never rfl (pi_range1 rfl T.b_range (pa_cons (pe_op op_add (pe_ix (Dat.ixT (K := K) rfl) (pv 0) pe_int (fun _ _ => rfl)) pe_int) pa_nil)) (pg_name (i := 13) sc__law_beat.nd rfl (.inl rfl))
      (pss_cons (ps_set (i := 14) sc__law_beat.nd rfl (.inr rfl) (pe_lst (pa_cons (pe_ifExp (pt_cmpR (Dat.neDQ (K := K) rfl (hu64 hr)) (pv 5) (pe_lst pa_nil) (nomark _)) (pe_ix (Dat.ixL (K := K) rfl) (pv 5) pe_int (fun _ _ => rfl)) pe_int) (pa_cons (pv 9) (pa_cons (pv 6) (pa_cons (pv 4) pa_nil))))))
      (pss_cons (ps_setLc (i := 15) (own := [("_law_run", 16)]) (g := (gName 16)) (tt := _) rfl sc__law_beat.nd rfl rfl (sw_true rfl rfl rfl (by decide +kernel)) (Dat.piT (K := K) rfl (pv 1)) (blkOk_by (N := N__law_beat) (sc := defScope s__law_beat) (by decide +kernel)) (fun _ _ _ _ _ => (pg_name (i := 16) sc__law_beat.nd rfl (Or.inl rfl))) (fun _ _ _ _ _ => (pts_one (pt_val (pe_call G__law_fits (hr.mono (by omega)) rfl T.D__law_fits.g T.D__law_fits.F.kp T.D__law_fits.b .nil pass0 (pa_cons (pv 16) (pa_cons (pv 14) (pa_cons (pv 7) pa_nil))))))) (fun _ _ _ _ _ => (pv 16)))
      (pss_cons (ps_if (pt_cmpR (Dat.eqNilQ (K := K) rfl (hu64 hr)) (pv 15) (pe_lst pa_nil) (nomark _))
        (pss_one ps_break)
        pss_nil)
      (pss_cons (ps_set (i := 7) sc__law_beat.nd rfl (.inr rfl) (pe_ix (Dat.ixT (K := K) rfl) (pe_ix (Dat.ixL (K := K) rfl) (pv 15) pe_int (fun _ _ => rfl)) pe_int (fun _ _ => rfl)))
      (pss_cons (ps_if (pt_cmpR op_eq (pe_ix (Dat.ixT (K := K) rfl) (pe_ix (Dat.ixL (K := K) rfl) (pv 15) pe_int (fun _ _ => rfl)) pe_int (fun _ _ => rfl)) pe_str (nomark _))
        (pss_one ps_break)
        pss_nil)
      (pss_one (ps_if (pt_cmpR op_eq (pe_ix (Dat.ixT (K := K) rfl) (pe_ix (Dat.ixL (K := K) rfl) (pv 15) pe_int (fun _ _ => rfl)) pe_int (fun _ _ => rfl)) pe_str (nomark _))
        (pss_cons (ps_set (i := 9) sc__law_beat.nd rfl (.inl rfl) (pe_op op_sub (pv 9) (pe_ix (Dat.ixL (K := K) rfl) (pv 5) pe_int (fun _ _ => rfl))))
        (pss_one (ps_expr (Dat.appQ (K := K) rfl (pv 10) (pa_cons (pe_tup (pa_cons pe_str (pa_cons (Dat.popAtQ (K := K) rfl (pv 5) (pa_cons pe_int pa_nil)) pa_nil))) pa_nil)))))
        (pss_cons (ps_par (i := 9) (j := 6) rfl sc__law_beat.nd rfl rfl (by decide) rfl rfl (pa_cons (pe_op op_sub (pv 9) pe_int) (pa_cons (pe_op op_sub (pv 6) pe_int) pa_nil)) (by rfl))
        (pss_one (ps_expr (Dat.appQ (K := K) rfl (pv 10) (pa_cons (pe_tup (pa_cons pe_str (pa_cons pe_int pa_nil))) pa_nil)))))))))))))
    (pss_cons (ps_set (i := 17) sc__law_beat.nd rfl (.inl rfl) (pe_ifExp (PW.pt (pw_or (pt_cmpR (Dat.neDQ (K := K) rfl (hu64 hr)) (pv 5) (pe_lst pa_nil) (nomark _)) (pw_or1 (pt_cmpR op_gt (pv 6) pe_int (nomark _))))) (pv 9) pe_int))
    (pss_one (ps_ret (pe_tup (pa_cons (pe_tup (pa_cons (Dat.pe_tupleK (K := K) rfl rfl T.b_tuple (pv 5)) (pa_cons (pv 6) (pa_cons (pv 7) pa_nil)))) (pa_cons (Dat.pe_tupleK (K := K) rfl rfl T.b_tuple (pv 10)) (pa_cons (pv 17) (pa_cons (pv 8) pa_nil))))))))))))), ?_⟩
  rintro as Ω P ⟨s, rs, t, c, rfl, so, ro, to, co, h⟩
  refine s_seq (s_asgG (e_tupA (a_cons (e_cb (a_cons (e_op (e_var rfl (e_int (r_ixT rfl (a_nil (c_listTP fun pl nl => ?_)))))))))))
  refine a_cons (e_op (e_var rfl (e_int (r_ixT rfl (a_cons (e_op (e_var rfl (e_int (r_ixT rfl (a_nil ⟨by simp, g_tupA rfl (gs_cons (g_name ⟨rfl, gs_cons (g_name ⟨rfl, gs_cons (g_name ⟨rfl, gs_nil ?_⟩)⟩)⟩))⟩))))))))))
  refine s_seq (s_par3 (a_cons (e_int (a_cons (e_op (e_var rfl (e_int (r_ixT rfl (a_cons (e_lstP (a_nil ⟨by simp, fun pd nd => a_nil ⟨_, _, _, rfl, ?_⟩⟩)))))))))))
  have ne : pd ≠ pl := fun e => by rw [e, put_same] at nd; cases nd
  have nd' : Ω pd = none := by rw [put_ne ne] at nd; exact nd
  have n1 := so.n1
  have n4 := so.n4
  have cg := co.g
  have c11 := so.c11
  have tl := to.l
  -- groups come
  refine s_seqM (fun Γ' Ω' => ∃ y, Γ' = [some (.dat s.enc), some (.dat (rules rs)), some (.dat t.enc), some (.dat c.enc), some (.dat (.int 0)), some (.ptr pl), some (.dat (.int t.sg)), some (.dat (.int t.mood)), some (.dat (.int (comeT s t c).2)), some (.dat (.int s.n)), some (.ptr pd), y, none, none, none, none, none, none] ∧ Ω' = put (put Ω pl (((comeT s t c).1.map PyData.int).map .dat)) pd []) ?_ ?_
  · refine s_for (fun as i Γ' Ω' => as = (c.gs.map PyData.int).map .dat ∧ ∃ y ln aw, comeT s t c = comeL s.r1 (c.gs.drop i) (ln, aw) ∧ ln.length ≤ 100 + i ∧ Γ' = [some (.dat s.enc), some (.dat (rules rs)), some (.dat t.enc), some (.dat c.enc), some (.dat (.int 0)), some (.ptr pl), some (.dat (.int t.sg)), some (.dat (.int t.mood)), some (.dat (.int aw)), some (.dat (.int s.n)), some (.ptr pd), y, none, none, none, none, none, none] ∧ Ω' = put (put Ω pl ((ln.map PyData.int).map .dat)) pd []) ?_
    refine i_tup (e_op (e_var rfl (e_int (r_ixT rfl ⟨_, rfl, ⟨rfl, _, t.line, 0, rfl, by omega, rfl, rfl⟩, ?_, ?_⟩))))
    · rintro i it Γ' Ω' hit ⟨_, y, ln, aw, hc, l1, rfl, rfl⟩
      have hi := (List.getElem?_eq_some_iff.mp hit).1
      rw [List.length_map, List.length_map] at hi
      have hg : c.gs[i]? = some c.gs[i] := List.getElem?_eq_getElem hi
      have e : it = .dat (.int c.gs[i]) := by
        rw [List.getElem?_map, List.getElem?_map, hg] at hit
        exact (Option.some.inj hit).symm
      subst e
      have hc2 := hc.trans (comeL_snoc s.r1 c.gs (ln, aw) i _ hg)
      refine g_name ?_
      refine s_if (t_test (e_op (e_cb (a_cons (e_var rfl (a_nil (c_lenP (by rw [put_ne ne.symm, put_same]) (e_op (e_op (e_var rfl (e_int (r_ixT rfl (e_int (r_ixT rfl (r_I0b ⟨_, rfl, (fun z => ?_), (fun z => ?_)⟩)))))))))))))))
      · have z' := of_decide_eq_true z
        rw [List.length_map, List.length_map] at z'
        rw [if_pos z'] at hc2
        refine s_drop (e_app (e_var rfl ⟨pl, rfl, ⟨_, by rw [put_ne ne.symm, put_same]⟩, a_cons (e_var rfl (a_nil ⟨_, _, rfl, by rw [put_ne ne.symm, put_same], by rw [List.length_map, List.length_map]; omega, ?_⟩))⟩))
        refine ⟨rfl, some (.dat (.int c.gs[i])), ln ++ [c.gs[i]], aw, hc2, by rw [List.length_append]; show _ + 1 ≤ _; omega, rfl, ?_⟩
        rw [put3 ne, List.map_append, List.map_append]
        rfl
      · have z' := of_decide_eq_false z
        rw [List.length_map, List.length_map] at z'
        rw [if_neg z'] at hc2
        exact s_asg (e_op (e_var rfl (e_var rfl (r_I0i ⟨rfl, some (.dat (.int c.gs[i])), ln, _, hc2, by omega, rfl, rfl⟩))))
    · rintro Γ' Ω' ⟨_, y, ln, aw, hc, l1, rfl, rfl⟩
      rw [List.length_map, List.length_map, List.drop_length] at hc
      rw [hc]
      exact ⟨y, rfl, rfl⟩
  rintro Γ' Ω' ⟨y, rfl, rfl⟩
  -- singles come
  have hf := comeF_ok co to.g0 to.g2
  have k0 := co.k0
  have k1 := co.k1
  have c22 := so.c22
  obtain ⟨L, hL⟩ : ∃ L, L = (comeT s t c).1 := ⟨_, rfl⟩
  obtain ⟨AW0, hAW⟩ : ∃ a, a = (comeT s t c).2 := ⟨_, rfl⟩
  rw [← hL, ← hAW]
  refine s_seqM (fun Γ' Ω' => ∃ y z, Γ' = [some (.dat s.enc), some (.dat (rules rs)), some (.dat t.enc), some (.dat c.enc), some (.dat (.int 0)), some (.ptr pl), some (.dat (.int (t.sg + comeF s t.sg c))), some (.dat (.int t.mood)), some (.dat (.int (AW0 + c.k - comeF s t.sg c))), some (.dat (.int s.n)), some (.ptr pd), y, z, none, none, none, none, none] ∧ Ω' = put (put Ω pl ((L.map PyData.int).map .dat)) pd []) ?_ ?_
  · refine s_for (fun as i Γ' Ω' => as.length = c.k.toNat ∧ ∃ y z sg aw, (sg = t.sg + (if s.r2 - t.sg < (i : Int) then s.r2 - t.sg else (i : Int))) ∧ aw = AW0 + (i : Int) - (if s.r2 - t.sg < (i : Int) then s.r2 - t.sg else (i : Int)) ∧ Γ' = [some (.dat s.enc), some (.dat (rules rs)), some (.dat t.enc), some (.dat c.enc), some (.dat (.int 0)), some (.ptr pl), some (.dat (.int sg)), some (.dat (.int t.mood)), some (.dat (.int aw)), some (.dat (.int s.n)), some (.ptr pd), y, z, none, none, none, none, none] ∧ Ω' = put (put Ω pl ((L.map PyData.int).map .dat)) pd []) ?_
    have g2 := to.g2
    refine i_rng1 (a_cons (e_op (e_var rfl (e_int (r_ixT rfl (a_nil ⟨c.k, rfl, ⟨by omega, by omega⟩, ⟨?_, _, _, t.sg, AW0, ?_, ?_, rfl, rfl⟩, ?_, ?_⟩))))))
    · unfold rngA
      rw [List.length_map, List.length_range]
    · rw [if_neg (by show ¬ (s.r2 - t.sg < 0); omega)]
      show _ = t.sg + 0
      omega
    · rw [if_neg (by show ¬ (s.r2 - t.sg < 0); omega)]
      show _ = AW0 + 0 - 0
      omega
    · rintro i it Γ' Ω' hit ⟨hl, y, z, sg, aw, esg, eaw, rfl, rfl⟩
      refine g_name ?_
      refine s_if (t_test (e_op (e_var rfl (e_op (e_op (e_var rfl (e_int (r_ixT rfl (e_int (r_ixT rfl (r_I0b ⟨_, rfl, (fun z => ?_), (fun z => ?_)⟩)))))))))))
      · have z' := of_decide_eq_true z
        refine s_asg (e_op (e_var rfl (e_int (r_I0i ⟨hl, _, _, _, _, ?_, ?_, rfl, rfl⟩))))
        · rw [esg]
          rw [esg] at z'
          show _ = t.sg + (if s.r2 - t.sg < ((i + 1 : Nat) : Int) then _ else ((i + 1 : Nat) : Int))
          push_cast
          split <;> rename_i q <;> split at z' <;> (try split) <;> omega
        · rw [eaw]
          rw [esg] at z'
          show _ = AW0 + ((i + 1 : Nat) : Int) - (if s.r2 - t.sg < ((i + 1 : Nat) : Int) then _ else ((i + 1 : Nat) : Int))
          push_cast
          split <;> rename_i q <;> split at z' <;> (try split) <;> omega
      · have z' := of_decide_eq_false z
        refine s_asg (e_op (e_var rfl (e_int (r_I0i ⟨hl, _, _, _, _, ?_, ?_, rfl, rfl⟩))))
        · rw [esg]
          rw [esg] at z'
          show _ = t.sg + (if s.r2 - t.sg < ((i + 1 : Nat) : Int) then _ else ((i + 1 : Nat) : Int))
          push_cast
          split <;> rename_i q <;> split at z' <;> (try split) <;> omega
        · rw [eaw]
          rw [esg] at z'
          show _ = AW0 + ((i + 1 : Nat) : Int) - (if s.r2 - t.sg < ((i + 1 : Nat) : Int) then _ else ((i + 1 : Nat) : Int))
          push_cast
          split <;> rename_i q <;> split at z' <;> (try split) <;> omega
    · rintro Γ' Ω' ⟨hl, y, z, sg, aw, esg, eaw, rfl, rfl⟩
      rw [hl, Int.toNat_of_nonneg k0] at esg eaw
      rw [esg, eaw]
      exact ⟨y, z, rfl, rfl⟩
  rintro Γ' Ω' ⟨y, z, rfl, rfl⟩
  -- the bench is filled
  obtain ⟨X, hX⟩ : ∃ X, X = beatF s rs t c := ⟨_, rfl⟩
  have hLz := (comeL_ok so co.z to.z to.l (x := (t.line, 0))).1
  refine s_seqM (fun Γ' Ω' => ∃ (a b c' d e : Option Av), Γ' = [some (.dat s.enc), some (.dat (rules rs)), some (.dat t.enc), some (.dat c.enc), some (.dat (.int 0)), some (.ptr pl), some (.dat (.int X.sg)), some (.dat (.int X.mood)), some (.dat (.int (AW0 + c.k - comeF s t.sg c))), some (.dat (.int X.left)), some (.ptr pd), a, b, c', d, e, none, none] ∧ Ω' = put (put Ω pl ((X.line.map PyData.int).map .dat)) pd ((encD X.ds).map .dat)) ?_ ?_
  · refine s_for (fun as i Γ' Ω' => as.length = s.n.toNat + 1 ∧ ∃ (x : Fl) (a b c' d e : Option Av), X = fill rs 0 (s.n.toNat + 1 - i) x ∧ (∀ z ∈ x.line, 1 ≤ z) ∧ x.ds.length ≤ i ∧ Γ' = [some (.dat s.enc), some (.dat (rules rs)), some (.dat t.enc), some (.dat c.enc), some (.dat (.int 0)), some (.ptr pl), some (.dat (.int x.sg)), some (.dat (.int x.mood)), some (.dat (.int (AW0 + c.k - comeF s t.sg c))), some (.dat (.int x.left)), some (.ptr pd), a, b, c', d, e, none, none] ∧ Ω' = put (put Ω pl ((x.line.map PyData.int).map .dat)) pd ((encD x.ds).map .dat)) ?_
    refine i_rng1 (a_cons (e_op (e_op (e_var rfl (e_int (r_ixT rfl (e_int (r_I0i (a_nil ⟨_, rfl, ⟨by omega, by omega⟩, ⟨?_, ⟨L, t.sg + comeF s t.sg c, t.mood, s.n, []⟩, _, _, _, _, _, ?_, ?_, Nat.le_refl _, rfl, rfl⟩, ?_, ?_⟩)))))))))
    · unfold rngA
      rw [List.length_map, List.length_range]
      omega
    · rw [hX, hL]
      rfl
    · rw [hL]
      exact fun z hz => (hLz z hz).1
    · rintro i it Γ' Ω' hit ⟨hl, x, a, b, c', d, e, hx, zx, ld, rfl, rfl⟩
      have hi := (List.getElem?_eq_some_iff.mp hit).1
      obtain ⟨n, hn⟩ : ∃ n, s.n.toNat + 1 - i = n + 1 := ⟨s.n.toNat - i, by omega⟩
      rw [hn] at hx
      have hlen : x.ds.length < 100 := by omega
      refine g_name ?_
      refine s_seqM (fun Γ' Ω' => Γ' = [some (.dat s.enc), some (.dat (rules rs)), some (.dat t.enc), some (.dat c.enc), some (.dat (.int 0)), some (.ptr pl), some (.dat (.int x.sg)), some (.dat (.int x.mood)), some (.dat (.int (AW0 + c.k - comeF s t.sg c))), some (.dat (.int x.left)), some (.ptr pd), a, b, some it, some (.dat (.list ([front x.line, x.left, x.sg, 0].map PyData.int))), e, none, none] ∧ Ω' = put (put Ω pl ((x.line.map PyData.int).map .dat)) pd ((encD x.ds).map .dat)) ?_ ?_
      · refine s_asg (e_lstD (a_cons (EW.mono (P := IsI (front x.line) (put (put Ω pl ((x.line.map PyData.int).map .dat)) pd ((encD x.ds).map .dat))) ?_ ?_)))
        · refine e_if (t_test (e_op (e_var rfl (e_lstD (a_nil ⟨[], .nil, rfl, r_neP (by rw [put_ne ne.symm, put_same]) (sh_ints _) rfl ⟨_, rfl, ?_⟩⟩)))))
          rw [eqv_nil]
          match x.line with
          | [] => exact ⟨nofun, fun _ => e_int ⟨rfl, rfl⟩⟩
          | z :: l => exact ⟨(fun _ => e_op (e_var rfl (e_int (r_ixP (by rw [put_ne ne.symm, put_same]) (atI_nat' (i := 0) rfl) ⟨rfl, rfl⟩)))), nofun⟩
        rintro u Ω2 ⟨eu, e2⟩
        subst eu e2
        exact a_cons (e_var rfl (a_cons (e_var rfl (a_cons (e_var rfl (a_nil ⟨_, .cons (.cons (.cons (.cons .nil))), rfl, rfl, rfl⟩))))))
      rintro Γ' Ω' ⟨rfl, rfl⟩
      refine s_seqM (fun Γ' Ω' => Γ' = [some (.dat s.enc), some (.dat (rules rs)), some (.dat t.enc), some (.dat c.enc), some (.dat (.int 0)), some (.ptr pl), some (.dat (.int x.sg)), some (.dat (.int x.mood)), some (.dat (.int (AW0 + c.k - comeF s t.sg c))), some (.dat (.int x.left)), some (.ptr pd), a, b, some it, some (.dat (.list ([front x.line, x.left, x.sg, 0].map PyData.int))), some (.dat (.list ((rs.filter (fits x.line x.sg x.left 0 x.mood)).map Rw.enc))), none, none] ∧ Ω' = put (put Ω pl ((x.line.map PyData.int).map .dat)) pd ((encD x.ds).map .dat)) ?_ ?_
      · refine s_asg (e_lcF rs (fun r => .dat r.enc) (fits x.line x.sg x.left 0 x.mood) Rw.enc (gn_name (by decide)) (by have := ro.len; omega) ?_)
        refine i_tup (e_var rfl ⟨_, rfl, (by rw [List.map_map]; rfl), fun r Ω' hr' _ => g_name ⟨rfl, ?_⟩, rfl, rfl⟩)
        refine t_B (e_call (a_cons (e_var rfl (a_cons (e_var rfl (a_cons (e_var rfl (a_nil ⟨r, x.line, x.sg, x.left, 0, x.mood, rfl, zx, _, rfl, rfl, rfl, fun _ => e_var rfl ⟨rfl, rfl⟩⟩))))))))
      rintro Γ' Ω' ⟨rfl, rfl⟩
      have hh : rs.find? (fits x.line x.sg x.left 0 x.mood) = (rs.filter (fits x.line x.sg x.left 0 x.mood)).head? := by rw [List.head?_filter]
      match hfl : rs.filter (fits x.line x.sg x.left 0 x.mood) with
      | [] =>
        rw [hfl] at hh
        have eX : X = x := by
          rw [hx]
          show (match rs.find? (fits x.line x.sg x.left 0 x.mood) with | none => x | some (r : Rw) => if r.d = Deed.go then stepF x r else K20.fill rs 0 n (stepF x r)) = _
          rw [hh]
          rfl
        rw [eX]
        exact s_seq (s_if (t_test (e_op (e_var rfl (e_lstD (a_nil ⟨[], .nil, rfl, r_eqNil ⟨_, rfl, (fun _ => s_brk ⟨_, _, _, _, _, rfl, rfl⟩), nofun⟩⟩))))))
      | r :: rest =>
        rw [hfl] at hh
        have hp : fits x.line x.sg x.left 0 x.mood r = true := by
          have : r ∈ rs.filter (fits x.line x.sg x.left 0 x.mood) := by rw [hfl]; exact List.mem_cons_self ..
          exact (List.mem_filter.mp this).2
        have hfe := fits_feas hp
        have eX : X = if r.d = Deed.go then stepF x r else K20.fill rs 0 n (stepF x r) := by
          rw [hx]
          show (match rs.find? (fits x.line x.sg x.left 0 x.mood) with | none => x | some (r : Rw) => if r.d = Deed.go then stepF x r else K20.fill rs 0 n (stepF x r)) = _
          rw [hh]
          rfl
        have hn' : s.n.toNat + 1 - (i + 1) = n := by omega
        obtain ⟨rm, rf, rl, rsg, ro', rd, ra⟩ := r
        refine s_seq (s_if (t_test (e_op (e_var rfl (e_lstD (a_nil ⟨[], .nil, rfl, r_eqNil ⟨_, rfl, nofun, (fun _ => s_next ?_)⟩⟩))))))
        refine s_seq (s_asg (e_op (e_op (e_var rfl (e_int (r_ixL (atI_nat' (i := 0) rfl) (e_int (r_ixT rfl ?_))))))))
        cases rd with
        | go =>
          replace eX := eX.trans (if_pos rfl)
          rw [eX]
          exact s_seq (s_if (t_test (e_op (e_op (e_op (e_var rfl (e_int (r_ixL (atI_nat' (i := 0) rfl) (e_int (r_ixT rfl (e_str (r_eq rfl ⟨_, rfl, (fun _ => s_brk ⟨_, _, _, _, _, rfl, rfl⟩), (fun z => absurd (show eqD (.str Deed.go.str) (.str "go") = false from z) (by decide))⟩))))))))))))
        | group =>
          replace eX := eX.trans (if_neg (show ¬ Deed.group = Deed.go by decide))
          obtain ⟨z, l, hl', hz⟩ := feas_group hfe
          refine s_seq (s_if (t_test (e_op (e_op (e_op (e_var rfl (e_int (r_ixL (atI_nat' (i := 0) rfl) (e_int (r_ixT rfl (e_str (r_eq rfl ⟨_, rfl, (fun z => absurd (show eqD (.str Deed.group.str) (.str "go") = true from z) (by decide)), (fun _ => s_next ?_)⟩))))))))))))
          refine s_if (t_test (e_op (e_op (e_op (e_var rfl (e_int (r_ixL (atI_nat' (i := 0) rfl) (e_int (r_ixT rfl (e_str (r_eq rfl ⟨_, rfl, (fun _ => ?_), (fun z => absurd (show eqD (.str Deed.group.str) (.str "group") = false from z) (by decide))⟩)))))))))))
          have el : ((x.line.map PyData.int).map Av.dat) = .dat (.int z) :: ((l.map PyData.int).map Av.dat) := by rw [hl']; rfl
          rw [el]
          refine s_seq (s_asg (e_op (e_var rfl (e_op (e_var rfl (e_int (r_ixP (by rw [put_ne ne.symm, put_same]) (atI_nat' (i := 0) rfl) (r_I0i ?_))))))))
          refine s_drop (e_app (e_var rfl ⟨pd, rfl, ⟨_, put_same⟩, a_cons (e_tupD (a_cons (e_str (a_cons (e_pop0 (e_var rfl ⟨pl, rfl, ⟨_, by rw [put_ne ne.symm, put_same]⟩, a_cons (e_int (a_nil ⟨_, _, rfl, by rw [put_ne ne.symm, put_same], a_nil ⟨_, .cons (.cons .nil), rfl, a_nil ⟨_, _, rfl, by rw [put_ne ne, put_same], by rw [List.length_map, List.length_map]; omega, ?_⟩⟩⟩))⟩))))))⟩))
          refine ⟨hl, ⟨l, x.sg, ra, x.left - z, x.ds ++ [(Deed.group, z)]⟩, _, _, _, _, _, ?_, fun y hy => zx y (by rw [hl']; exact List.mem_cons_of_mem _ hy), by show (x.ds ++ [(Deed.group, z)]).length ≤ i + 1; rw [List.length_append]; show x.ds.length + 1 ≤ _; omega, rfl, ?_⟩
          · rw [hn', eX]
            unfold stepF
            rw [hl']
            rfl
          · rw [put4 ne]
            show put _ pd ((encD x.ds).map .dat ++ [.dat (.tuple [.str "group", .int z])]) = put _ pd ((encD (x.ds ++ [(Deed.group, z)])).map .dat)
            rw [show (encD (x.ds ++ [(Deed.group, z)])).map Av.dat = (encD x.ds).map Av.dat ++ [.dat (.tuple [.str "group", .int z])] by rw [show encD (x.ds ++ [(Deed.group, z)]) = encD x.ds ++ [.tuple [.str "group", .int z]] from List.map_append, List.map_append]; rfl]
        | single =>
          replace eX := eX.trans (if_neg (show ¬ Deed.single = Deed.go by decide))
          refine s_seq (s_if (t_test (e_op (e_op (e_op (e_var rfl (e_int (r_ixL (atI_nat' (i := 0) rfl) (e_int (r_ixT rfl (e_str (r_eq rfl ⟨_, rfl, (fun z => absurd (show eqD (.str Deed.single.str) (.str "go") = true from z) (by decide)), (fun _ => s_next ?_)⟩))))))))))))
          refine s_if (t_test (e_op (e_op (e_op (e_var rfl (e_int (r_ixL (atI_nat' (i := 0) rfl) (e_int (r_ixT rfl (e_str (r_eq rfl ⟨_, rfl, (fun z => absurd (show eqD (.str Deed.single.str) (.str "group") = true from z) (by decide)), (fun _ => ?_)⟩)))))))))))
          refine s_seq (s_par (a_cons (e_op (e_var rfl (e_int (r_I0i (a_cons (e_op (e_var rfl (e_int (r_I0i (a_nil ⟨_, _, rfl, ?_⟩))))))))))))
          refine s_drop (e_app (e_var rfl ⟨pd, rfl, ⟨_, put_same⟩, a_cons (e_tupD (a_cons (e_str (a_cons (e_int (a_nil ⟨_, .cons (.cons .nil), rfl, a_nil ⟨_, _, rfl, put_same, by rw [List.length_map, List.length_map]; omega, ?_⟩⟩))))))⟩))
          refine ⟨hl, ⟨x.line, x.sg - 1, ra, x.left - 1, x.ds ++ [(Deed.single, 1)]⟩, _, _, _, _, _, by rw [hn']; exact eX, zx, by show (x.ds ++ [(Deed.single, 1)]).length ≤ i + 1; rw [List.length_append]; show x.ds.length + 1 ≤ _; omega, rfl, ?_⟩
          rw [put_put]
          show put _ pd ((encD x.ds).map .dat ++ [.dat (.tuple [.str "single", .int 1])]) = put _ pd ((encD (x.ds ++ [(Deed.single, 1)])).map .dat)
          rw [show (encD (x.ds ++ [(Deed.single, (1 : Int))])).map Av.dat = (encD x.ds).map Av.dat ++ [.dat (.tuple [.str "single", .int 1])] by rw [show encD (x.ds ++ [(Deed.single, (1 : Int))]) = encD x.ds ++ [.tuple [.str "single", .int 1]] from List.map_append, List.map_append]; rfl]
    · rintro Γ' Ω' ⟨hl, x, a, b, c', d, e, hx, zx, ld, rfl, rfl⟩
      rw [hl, Nat.sub_self] at hx
      have eX : X = x := hx
      rw [eX]
      exact ⟨_, _, _, _, _, rfl, rfl⟩
  rintro Γ' Ω' ⟨a, b, c', d, e, rfl, rfl⟩
  rw [hAW]
  refine s_seqM (fun Γ' Ω' => Γ' = [some (.dat s.enc), some (.dat (rules rs)), some (.dat t.enc), some (.dat c.enc), some (.dat (.int 0)), some (.ptr pl), some (.dat (.int X.sg)), some (.dat (.int X.mood)), some (.dat (.int ((comeT s t c).2 + c.k - comeF s t.sg c))), some (.dat (.int X.left)), some (.ptr pd), a, b, c', d, e, none, some (.dat (.int (emptyF X)))] ∧ Ω' = put (put Ω pl ((X.line.map PyData.int).map .dat)) pd ((encD X.ds).map .dat)) ?_ ?_
  · refine s_asg (e_if (t_or (t_test (e_op (e_var rfl (e_lstD (a_nil ⟨[], .nil, rfl, r_neP (by rw [put_ne ne.symm, put_same]) (sh_ints _) rfl ⟨_, rfl, ?_⟩⟩)))))))
    rw [eqv_nil]
    unfold emptyF
    match X.line with
    | [] =>
      refine ⟨nofun, fun _ => t_test (e_op (e_var rfl (e_int (r_I0b ⟨_, rfl, (fun z => e_var rfl ⟨?_, rfl⟩), (fun z => e_int ⟨?_, rfl⟩)⟩))))⟩
      · rw [z]
        rfl
      · rw [z]
        rfl
    | z :: l => exact ⟨(fun _ => ⟨(fun _ => e_var rfl ⟨rfl, rfl⟩), nofun⟩), nofun⟩
  rintro Γ' Ω' ⟨rfl, rfl⟩
  refine s_ret (e_tupD (a_cons (e_tupD (a_cons (e_then (e_var rfl (r_tupP (by rw [put_ne ne.symm, put_same]) ?_)))))))
  rw [K20.put_comm ne.symm, del_put (by rw [put_ne ne.symm]; exact nl)]
  refine a_cons (e_var rfl (a_cons (e_var rfl (a_nil ⟨_, .cons (.cons (.cons .nil)), rfl, ?_⟩))))
  refine a_cons (e_then (e_var rfl (r_tupP put_same ?_)))
  rw [del_put nd']
  rw [hX]
  exact a_cons (e_var rfl (a_cons (e_var rfl (a_nil ⟨_, .cons (.cons (.cons (.cons .nil))), rfl, h⟩))))
end
end K20

set_option Elab.async false
set_option linter.all false
set_option maxRecDepth 100000
set_option maxHeartbeats 1000000
namespace K20
open PySem PySem.Spec PyProof.Rows L2 Dat LamX Clo
local macro_rules | `(tactic| trivial) => `(tactic| (first
  | (with_reducible refine s_seq ?_)
  | (with_reducible refine s_asg ?_)
  | (with_reducible refine s_ret ?_)
  | (with_reducible refine s_drop ?_)
  | (with_reducible refine s_next ?_)
  | (with_reducible refine s_retN ?_)
  | (with_reducible refine s_brk ?_)
  | (with_reducible refine s_cont ?_)
  | (with_reducible refine s_if ?_)
  | (with_reducible refine e_int ?_)
  | (with_reducible refine e_str ?_)
  | (with_reducible refine e_bl ?_)
  | (with_reducible refine e_non ?_)
  | (with_reducible refine e_ty ?_)
  | (with_reducible refine e_tupD ?_)
  | (with_reducible refine e_lstD ?_)
  | (with_reducible refine e_op ?_)
  | (with_reducible refine e_un ?_)
  | (with_reducible refine e_then ?_)
  | (with_reducible refine e_cb ?_)
  | (with_reducible refine e_call ?_)
  | (with_reducible refine e_if ?_)
  | (with_reducible refine e_chain ?_)
  | (with_reducible refine e_andV ?_)
  | (with_reducible refine e_orV ?_)
  | (with_reducible refine e_notV ?_)
  | (with_reducible refine a_cons ?_)
  | (with_reducible refine a_nil ?_)
  | (with_reducible refine t_test ?_)
  | (with_reducible refine t_B ?_)
  | (with_reducible refine t_not ?_)
  | (with_reducible refine t_and ?_)
  | (with_reducible refine t_or ?_)
  | (with_reducible refine r_I0i ?_)
  | (with_reducible refine r_I0b ?_)
  | (with_reducible refine r_neg ?_)
  | (with_reducible refine r_isN ?_)
  | (with_reducible refine r_notN ?_)
  | (with_reducible refine c_lenT ?_)
  | (with_reducible refine c_lenL ?_)
  | (with_reducible refine c_intI ?_)
  | (with_reducible refine c_intB ?_)
  | (with_reducible refine c_max2 ?_)
  | (with_reducible refine c_min2 ?_)
  | (with_reducible refine c_abs ?_)
  | (with_reducible refine r_tupL ?_)
  | (with_reducible refine r_tupT ?_)
  | (with_reducible refine c_allM ?_)
  | ((with_reducible apply e_var); (exact rfl))
  | ((with_reducible refine r_eq ?_ ?_); (exact rfl))
  | ((with_reducible refine r_ne ?_ ?_); (exact rfl))
  | (with_reducible refine c_isi kit_int ?_)
  | (with_reducible refine c_isi kit_bool ?_)
  | (with_reducible refine c_isi kit_tuple ?_)
  | (with_reducible refine c_isi kit_list ?_)
  | (with_reducible refine c_isi kit_str ?_)
  | ((with_reducible apply r_ixT); (exact rfl))
  | ((with_reducible apply dats_pack); (iterate 40 (first | exact Dats.nil | apply Dats.cons | skip)); (exact rfl))
  | (with_reducible refine s_asgG ?_) | (with_reducible refine g_name ?_) | ((with_reducible refine g_tup ?_ ?_); (exact rfl)) | (refine gs_nil ?_) | (refine gs_cons ?_) | (with_reducible refine ⟨rfl, ?_⟩)
  | (refine ⟨_, rfl, ?_⟩) | (refine ⟨_, _, rfl, ?_⟩) | (refine ⟨_, _, _, rfl, ?_⟩) | (with_reducible refine ⟨fun _ => ?_, fun _ => ?_⟩) | fail))
/-! ### rows that never fit, moods exchanged, first beats -/
def nv : Rw := ⟨0, (7, 8), (0, 9), (0, 9), (0, 9), .single, 1⟩
theorem nv_ok : nv.Ok := ⟨by decide, by decide, ⟨by decide, by decide, by decide⟩, ⟨by decide, by decide, by decide⟩, ⟨by decide, by decide, by decide⟩, rfl, by decide, by decide⟩
theorem front_le {s : Shop} {line : List Int} (so : s.Ok) (h : ∀ z ∈ line, 1 ≤ z ∧ z ≤ s.n) : front line ≤ 4 := by
  cases line with
  | nil => decide
  | cons z t =>
    have := (h z (List.mem_cons_self ..)).2
    have := so.n4
    show z ≤ 4
    omega
theorem nv_no {line : List Int} {sg left por mood : Int} (h : front line ≤ 4) : fits line sg left por mood nv = false := by
  have : within1 (front line) nv.f = false := by
    show (!(decide (front line < 7) || _)) = false
    rw [decide_eq_true (show front line < 7 by omega)]
    rfl
  unfold fits
  rw [this, Bool.false_and, Bool.and_false, Bool.and_false]
theorem fill_nv {s : Shop} {rs : List Rw} (so : s.Ok) (ro : ∀ r ∈ rs, r.Ok) : ∀ (n : Nat) {x : Fl}, FlOk s x → fill (rs ++ [nv]) 0 n x = fill rs 0 n x
  | 0, _, _ => rfl
  | n + 1, x, h => by
    have e : (rs ++ [nv]).find? (fits x.line x.sg x.left 0 x.mood) = rs.find? (fits x.line x.sg x.left 0 x.mood) := by
      rw [List.find?_append]
      have : [nv].find? (fits x.line x.sg x.left 0 x.mood) = none := by
        rw [List.find?_cons, nv_no (front_le so h.z)]
        rfl
      rw [this, Option.or_none]
    unfold fill
    rw [e]
    split
    · rfl
    · next r er =>
      have m := List.mem_of_find?_eq_some er
      have p := fits_feas (List.find?_some er)
      split
      · rfl
      · exact fill_nv so ro n (h.step (ro r m) p)
theorem startOk {s : Shop} {t : St} {c : Com} (so : s.Ok) (co : c.Ok s) (to : StOk s t) : FlOk s ⟨(comeT s t c).1, t.sg + comeF s t.sg c, t.mood, s.n, []⟩ := by
  have h := comeL_ok so co.z to.z to.l (x := (t.line, 0))
  have hf := comeF_ok co to.g0 to.g2
  have := to.g0
  exact ⟨h.1, h.2, by show 0 ≤ t.sg + comeF s t.sg c; omega, by show t.sg + comeF s t.sg c ≤ s.r2; omega, to.m0, to.m2⟩
theorem beat_nv {s : Shop} {rs : List Rw} {t : St} {c : Com} (so : s.Ok) (ro : ∀ r ∈ rs, r.Ok) (co : c.Ok s) (to : StOk s t) : beatF s (rs ++ [nv]) t c = beatF s rs t c := fill_nv so ro _ (startOk so co to)
theorem beat_ok' {s : Shop} {rs : List Rw} {t : St} {c : Com} (so : s.Ok) (ro : ∀ r ∈ rs, r.Ok) (co : c.Ok s) (to : StOk s t) : StOk s (stOf (beatF s rs t c)) := (FlOk.fill ro _ (startOk so co to)).st
theorem run_nv {s : Shop} {rs : List Rw} (so : s.Ok) (ro : ∀ r ∈ rs, r.Ok) : ∀ {cs : List Com} {x : St × List Wd}, (∀ c ∈ cs, c.Ok s) → StOk s x.1 → run s (rs ++ [nv]) cs x = run s rs cs x
  | [], _, _, _ => rfl
  | c :: cs, x, co, to => by
    have oc := co c (List.mem_cons_self ..)
    have e := beat_nv so ro oc to
    have ew : beatW s (rs ++ [nv]) x.1 c = beatW s rs x.1 c := by
      unfold beatW
      rw [e]
    show run s (rs ++ [nv]) cs (stOf (beatF s (rs ++ [nv]) x.1 c), x.2 ++ [beatW s (rs ++ [nv]) x.1 c]) = run s rs cs (stOf (beatF s rs x.1 c), x.2 ++ [beatW s rs x.1 c])
    rw [e, ew]
    exact run_nv so ro (fun d hd => co d (List.mem_cons_of_mem _ hd)) (beat_ok' so ro oc to)
/-! moods exchanged -/
def pm (i : Int) : Int := if i = 0 then 0 else if i = 1 then 2 else 1
def mv (r : Rw) : Rw := { r with m := pm r.m, a := pm r.a }
theorem pm_inj {i j : Int} (i0 : 0 ≤ i) (i2 : i ≤ 2) (j0 : 0 ≤ j) (j2 : j ≤ 2) : decide (pm i = pm j) = decide (i = j) := by
  rcases (show i = 0 ∨ i = 1 ∨ i = 2 by omega) with rfl | rfl | rfl <;> rcases (show j = 0 ∨ j = 1 ∨ j = 2 by omega) with rfl | rfl | rfl <;> decide
theorem pm_bd {i : Int} : 0 ≤ pm i ∧ pm i ≤ 2 := by
  unfold pm
  split
  · omega
  · split <;> omega
theorem mv_ok {r : Rw} (h : r.Ok) : (mv r).Ok := ⟨pm_bd.1, pm_bd.2, h.f, h.l, h.s, h.o, pm_bd.1, pm_bd.2⟩
def mvF (x : Fl) : Fl := { x with mood := pm x.mood }
theorem fits_mv {line : List Int} {sg left por mood : Int} {r : Rw} (ro : r.Ok) (m0 : 0 ≤ mood) (m2 : mood ≤ 2) : fits line sg left por (pm mood) (mv r) = fits line sg left por mood r := by
  unfold fits
  show (decide (pm r.m = pm mood) && _) = _
  rw [pm_inj ro.m0 ro.m2 m0 m2]
  rfl
theorem find_mv {line : List Int} {sg left por mood : Int} (m0 : 0 ≤ mood) (m2 : mood ≤ 2) : ∀ {rs : List Rw}, (∀ r ∈ rs, r.Ok) → (rs.map mv).find? (fits line sg left por (pm mood)) = (rs.find? (fits line sg left por mood)).map mv
  | [], _ => rfl
  | r :: rs, h => by
    rw [List.map_cons, List.find?_cons, List.find?_cons, fits_mv (h r (List.mem_cons_self ..)) m0 m2, find_mv m0 m2 fun x hx => h x (List.mem_cons_of_mem _ hx)]
    split <;> rfl
theorem step_mv (x : Fl) (r : Rw) : stepF (mvF x) (mv r) = mvF (stepF x r) := by
  obtain ⟨rm, rf, rl, rsg, ro', rd, ra⟩ := r
  cases rd <;> rfl
theorem fill_mv {s : Shop} {rs : List Rw} (ro : ∀ r ∈ rs, r.Ok) : ∀ (n : Nat) {x : Fl}, FlOk s x → fill (rs.map mv) 0 n (mvF x) = mvF (fill rs 0 n x)
  | 0, _, _ => rfl
  | n + 1, x, h => by
    have e := find_mv (line := x.line) (sg := x.sg) (left := x.left) (por := 0) h.m0 h.m2 ro
    unfold fill
    show (match (rs.map mv).find? (fits x.line x.sg x.left 0 (pm x.mood)) with | none => mvF x | some (r : Rw) => if r.d = Deed.go then stepF (mvF x) r else fill (rs.map mv) 0 n (stepF (mvF x) r)) = _
    rw [e]
    match er : rs.find? (fits x.line x.sg x.left 0 x.mood) with
    | none => rfl
    | some r =>
      have m := List.mem_of_find?_eq_some er
      have p := fits_feas (List.find?_some er)
      show (if (mv r).d = Deed.go then stepF (mvF x) (mv r) else fill (rs.map mv) 0 n (stepF (mvF x) (mv r))) = mvF (if r.d = Deed.go then stepF x r else fill rs 0 n (stepF x r))
      rw [step_mv, fill_mv ro n (h.step (ro r m) p)]
      show (if r.d = Deed.go then _ else _) = _
      split <;> rfl
def mvS (t : St) : St := { t with mood := pm t.mood }
theorem run_mv {s : Shop} {rs : List Rw} (so : s.Ok) (ro : ∀ r ∈ rs, r.Ok) : ∀ {cs : List Com} {t : St} {ws : List Wd}, (∀ c ∈ cs, c.Ok s) → StOk s t → run s (rs.map mv) cs (mvS t, ws) = (mvS (run s rs cs (t, ws)).1, (run s rs cs (t, ws)).2)
  | [], _, _, _, _ => rfl
  | c :: cs, t, ws, co, to => by
    have oc := co c (List.mem_cons_self ..)
    have e : beatF s (rs.map mv) (mvS t) c = mvF (beatF s rs t c) := fill_mv ro _ (startOk so oc to)
    have ew : beatW s (rs.map mv) (mvS t) c = beatW s rs t c := by
      unfold beatW
      rw [e]
      rfl
    show run s (rs.map mv) cs (stOf (beatF s (rs.map mv) (mvS t) c), ws ++ [beatW s (rs.map mv) (mvS t) c]) = _
    rw [e, ew]
    exact run_mv so ro (fun d hd => co d (List.mem_cons_of_mem _ hd)) (beat_ok' so ro oc to)
/-! first beats -/
theorem run_app {s : Shop} {rs : List Rw} : ∀ {as bs : List Com} {x : St × List Wd}, run s rs (as ++ bs) x = run s rs bs (run s rs as x)
  | [], _, _ => rfl
  | a :: as, bs, x => run_app (as := as)
theorem run_words {s : Shop} {rs : List Rw} : ∀ {cs : List Com} {t : St} {ws : List Wd}, ∃ us, (run s rs cs (t, ws)).2 = ws ++ us ∧ us.length = cs.length
  | [], _, ws => ⟨[], by rw [List.append_nil]; rfl, rfl⟩
  | c :: cs, t, ws => by
    obtain ⟨us, h1, h2⟩ := run_words (s := s) (rs := rs) (cs := cs) (t := stOf (beatF s rs t c)) (ws := ws ++ [beatW s rs t c])
    refine ⟨beatW s rs t c :: us, ?_, by rw [List.length_cons, List.length_cons, h2]⟩
    show (run s rs cs (stOf (beatF s rs t c), ws ++ [beatW s rs t c])).2 = _
    rw [h1, List.append_assoc]
    rfl
theorem run_take {s : Shop} {rs : List Rw} {cs : List Com} {t : St} (m : Nat) (h : m ≤ cs.length) : (run s rs (cs.take m) (t, [])).2 = (run s rs cs (t, [])).2.take m := by
  have e := run_app (s := s) (rs := rs) (as := cs.take m) (bs := cs.drop m) (x := (t, []))
  rw [List.take_append_drop] at e
  rw [e]
  obtain ⟨us, h1, h2⟩ := run_words (s := s) (rs := rs) (cs := cs.take m) (t := t) (ws := [])
  obtain ⟨vs, h3, _⟩ := run_words (s := s) (rs := rs) (cs := cs.drop m) (t := (run s rs (cs.take m) (t, [])).1) (ws := (run s rs (cs.take m) (t, [])).2)
  have h3' : (run s rs (cs.drop m) (run s rs (cs.take m) (t, []))).2 = (run s rs (cs.take m) (t, [])).2 ++ vs := h3
  rw [h3', h1, List.nil_append, List.take_left']
  rw [h2, List.length_take]
  omega
section
variable {P : Program} {w : World} {K : PySem.W.Frag} [Tb K] {mg : Str → Option Value} {base : Heap}
abbrev spMv : ASp := fun as Ω P => ∃ (rs : List Rw), as = [.dat (rules rs), .dat (.list ([0, 2, 1].map PyData.int))] ∧ RsOk rs ∧ P (.dat (rules (rs.map mv))) Ω
theorem pm_at {i : Int} (i0 : 0 ≤ i) (i2 : i ≤ 2) : atI ([0, 2, 1].map PyData.int) i = some (.int (pm i)) := by
  rcases (show i = 0 ∨ i = 1 ∨ i = 2 by omega) with rfl | rfl | rfl <;> rfl
theorem ok_moved (T : Top K mg) : FnOk P w K mg base CX0 1 T.f__law_moved T.d__law_moved ["_law_pews", "_law_moods"] (spA K spMv) := by
  refine fnA_ok T.D__law_moved.F sc__law_moved (fun as Ω P ⟨rs, e, _⟩ => by subst e; rfl) (fun cdv A outer s H E hr => ?_)
  refine ⟨_, (pss_one (ps_ret (Dat.pe_tupleK (K := K) rfl rfl T.b_tuple (pe_lc (own := [("_law_run", 2)]) (g := (gName 2)) (tt := tYes) rfl sc__law_moved.nd (Dat.piT (K := K) rfl (pv 0)) (blkOk_by (N := N__law_moved) (sc := defScope s__law_moved) (by decide +kernel)) (fun _ _ _ _ _ => (pg_name (i := 2) sc__law_moved.nd rfl (Or.inl rfl))) (fun _ _ _ _ _ => pts_nil) (fun _ _ _ _ _ => (pe_op (Dat.catT (K := K) rfl) (pe_op (Dat.catT (K := K) rfl) (pe_tup (pa_cons (pe_ix (Dat.ixL (K := K) rfl) (pv 1) (pe_ix (Dat.ixT (K := K) rfl) (pv 2) pe_int (fun _ _ => rfl)) (fun _ _ => rfl)) pa_nil)) (pe_slice (Dat.slT (K := K) rfl) (pv 2) (po_some pe_int) (po_some pe_int))) (pe_tup (pa_cons (pe_ix (Dat.ixL (K := K) rfl) (pv 1) (pe_ix (Dat.ixT (K := K) rfl) (pv 2) pe_int (fun _ _ => rfl)) (fun _ _ => rfl)) pa_nil)))))))), ?_⟩
  rintro as Ω P ⟨rs, rfl, ro, h⟩
  refine s_ret (e_then (e_lcM rs (fun r => .dat r.enc) (fun r => (mv r).enc) (gn_name (by decide)) (by have := ro.len; omega) ?_))
  refine i_tup (e_var rfl ⟨_, rfl, (by rw [List.map_map]; rfl), fun r Ω' hr' _ => g_name ⟨rfl, ?_⟩, ?_⟩)
  · have ok := ro.all r hr'
    refine e_op (e_op (e_tupD (a_cons (e_op (e_var rfl (e_op (e_var rfl (e_int (r_ixT rfl (r_ixL (pm_at ok.m0 ok.m2) (a_nil ⟨_, .cons .nil, rfl, e_slT (e_var rfl ⟨_, rfl, o_some (e_int ⟨_, rfl, o_some (e_int ⟨_, rfl, r_catT (Nat.le_of_ble_eq_true rfl) ?_⟩)⟩)⟩)⟩)))))))))))
    exact e_tupD (a_cons (e_op (e_var rfl (e_op (e_var rfl (e_int (r_ixT rfl (r_ixL (pm_at ok.a0 ok.a2) (a_nil ⟨_, .cons .nil, rfl, r_catT (Nat.le_of_ble_eq_true rfl) ⟨rfl, rfl⟩⟩)))))))))
  · refine r_tupL ?_
    have : (rs.map fun r => (mv r).enc) = (rs.map mv).map Rw.enc := by rw [List.map_map]; rfl
    rw [this]
    exact h
end
end K20

set_option Elab.async false
set_option linter.all false
set_option maxRecDepth 100000
set_option maxHeartbeats 2000000
namespace K20
open PySem PySem.Spec PyProof.Rows L2 Dat LamX Clo
local macro_rules | `(tactic| trivial) => `(tactic| (first
  | (with_reducible refine s_seq ?_)
  | (with_reducible refine s_asg ?_)
  | (with_reducible refine s_ret ?_)
  | (with_reducible refine s_drop ?_)
  | (with_reducible refine s_next ?_)
  | (with_reducible refine s_retN ?_)
  | (with_reducible refine s_brk ?_)
  | (with_reducible refine s_cont ?_)
  | (with_reducible refine s_if ?_)
  | (with_reducible refine e_int ?_)
  | (with_reducible refine e_str ?_)
  | (with_reducible refine e_bl ?_)
  | (with_reducible refine e_non ?_)
  | (with_reducible refine e_ty ?_)
  | (with_reducible refine e_tupD ?_)
  | (with_reducible refine e_lstD ?_)
  | (with_reducible refine e_op ?_)
  | (with_reducible refine e_un ?_)
  | (with_reducible refine e_then ?_)
  | (with_reducible refine e_cb ?_)
  | (with_reducible refine e_call ?_)
  | (with_reducible refine e_if ?_)
  | (with_reducible refine e_chain ?_)
  | (with_reducible refine e_andV ?_)
  | (with_reducible refine e_orV ?_)
  | (with_reducible refine e_notV ?_)
  | (with_reducible refine a_cons ?_)
  | (with_reducible refine a_nil ?_)
  | (with_reducible refine t_test ?_)
  | (with_reducible refine t_B ?_)
  | (with_reducible refine t_not ?_)
  | (with_reducible refine t_and ?_)
  | (with_reducible refine t_or ?_)
  | (with_reducible refine r_I0i ?_)
  | (with_reducible refine r_I0b ?_)
  | (with_reducible refine r_neg ?_)
  | (with_reducible refine r_isN ?_)
  | (with_reducible refine r_notN ?_)
  | (with_reducible refine c_lenT ?_)
  | (with_reducible refine c_lenL ?_)
  | (with_reducible refine c_intI ?_)
  | (with_reducible refine c_intB ?_)
  | (with_reducible refine c_max2 ?_)
  | (with_reducible refine c_min2 ?_)
  | (with_reducible refine c_abs ?_)
  | (with_reducible refine r_tupL ?_)
  | (with_reducible refine r_tupT ?_)
  | (with_reducible refine c_allM ?_)
  | ((with_reducible apply e_var); (exact rfl))
  | ((with_reducible refine r_eq ?_ ?_); (exact rfl))
  | ((with_reducible refine r_ne ?_ ?_); (exact rfl))
  | (with_reducible refine c_isi kit_int ?_)
  | (with_reducible refine c_isi kit_bool ?_)
  | (with_reducible refine c_isi kit_tuple ?_)
  | (with_reducible refine c_isi kit_list ?_)
  | (with_reducible refine c_isi kit_str ?_)
  | ((with_reducible apply r_ixT); (exact rfl))
  | ((with_reducible apply dats_pack); (iterate 40 (first | exact Dats.nil | apply Dats.cons | skip)); (exact rfl))
  | (with_reducible refine s_asgG ?_) | (with_reducible refine g_name ?_) | ((with_reducible refine g_tup ?_ ?_); (exact rfl)) | (refine gs_nil ?_) | (refine gs_cons ?_) | (with_reducible refine ⟨rfl, ?_⟩)
  | (refine ⟨_, rfl, ?_⟩) | (refine ⟨_, _, rfl, ?_⟩) | (refine ⟨_, _, _, rfl, ?_⟩) | (with_reducible refine ⟨fun _ => ?_, fun _ => ?_⟩) | fail))
theorem run_ok {s : Shop} {rs : List Rw} (so : s.Ok) (ro : ∀ r ∈ rs, r.Ok) : ∀ {cs : List Com} {x : St × List Wd}, (∀ c ∈ cs, c.Ok s) → StOk s x.1 → StOk s (run s rs cs x).1
  | [], _, _, to => to
  | c :: cs, x, co, to => run_ok so ro (cs := cs) (fun d hd => co d (List.mem_cons_of_mem _ hd)) (beat_ok' so ro (co c (List.mem_cons_self ..)) to)
theorem lay_itup (ns : List Int) : Lay (itup ns) 1 := Lay.tup (lay_ints ns)
theorem lay_deed (d : Deed × Int) : Lay (.tuple [.str d.1.str, .int d.2]) 1 := Lay.tup fun x hx => by
  simp only [List.mem_cons, List.not_mem_nil, or_false] at hx
  rcases hx with rfl | rfl
  · obtain ⟨d, i⟩ := d
    cases d
    · exact Lay.str (show PyData.strOk Deed.group.str = true by decide +kernel)
    · exact Lay.str (show PyData.strOk Deed.single.str = true by decide +kernel)
    · exact Lay.str (show PyData.strOk Deed.go.str = true by decide +kernel)
  · exact Lay.int _
theorem lay_wd (w : Wd) : Lay w.enc 3 := Lay.tup fun x hx => by
  simp only [List.mem_cons, List.not_mem_nil, or_false] at hx
  rcases hx with rfl | rfl | rfl
  · exact Lay.tup (lay_map fun d _ => lay_deed d)
  · exact (Lay.int _).mono (by decide)
  · exact (Lay.int _).mono (by decide)
theorem lay_st (t : St) : Lay t.enc 2 := Lay.tup fun x hx => by
  simp only [List.mem_cons, List.not_mem_nil, or_false] at hx
  rcases hx with rfl | rfl | rfl
  · exact lay_itup _
  · exact (Lay.int _).mono (by decide)
  · exact (Lay.int _).mono (by decide)
theorem lay_com (c : Com) : Lay c.enc 2 := Lay.tup fun x hx => by
  simp only [List.mem_cons, List.not_mem_nil, or_false] at hx
  rcases hx with rfl | rfl
  · exact lay_itup _
  · exact (Lay.int _).mono (by decide)
theorem lay_ws (ws : List Wd) : Lay (.list (ws.map Wd.enc)) 4 := Lay.lst (lay_map fun w _ => lay_wd w)
theorem lay_cs (cs : List Com) : Lay (.list (cs.map Com.enc)) 3 := Lay.lst (lay_map fun c _ => lay_com c)
theorem cutTake {α : Type} {f : α → PyData} {xs : List α} {k : Nat} (h : k ≤ xs.length) : Dat.cutD (xs.map f) none (some (k : Int)) = (xs.take k).map f := by
  unfold Dat.cutD HT.sIx
  rw [List.length_map]
  show ((xs.map f).drop 0).take ((if (k : Int) < 0 then _ else min ((k : Int).toNat) xs.length) - 0) = _
  rw [if_neg (by omega), List.drop_zero, Int.toNat_natCast, Nat.min_eq_left h, Nat.sub_zero, List.map_take]
theorem cutTake5 {xs : List Rw} : Dat.cutD (xs.map Rw.enc) none (some 5) = (xs.take 5).map Rw.enc := by
  unfold Dat.cutD HT.sIx
  rw [List.length_map]
  show ((xs.map Rw.enc).drop 0).take ((if (5 : Int) < 0 then _ else min ((5 : Int).toNat) xs.length) - 0) = _
  rw [if_neg (by decide), List.drop_zero, Nat.sub_zero, List.map_take]
  show (xs.map Rw.enc).take (min 5 xs.length) = _
  rw [show min 5 xs.length = min 5 (xs.map Rw.enc).length by rw [List.length_map], ← List.take_eq_take_min]
abbrev encS (s : Shop) (rs : List Rw) (cs : List Com) (n : Nat) : List PyData := (List.range n).map fun j => (run s rs (cs.take j) (t0, [])).1.enc
section
variable {P : Program} {w : World} {K : PySem.W.Frag} [Tb K] {mg : Str → Option Value} {base : Heap}
abbrev spRight : ASp := fun as Ω P => ∃ (Ω0 : AH) (p : Addr) (a b c : Int), as = [.ptr p] ∧ Ω = put Ω0 p (deckL a b c) ∧ ∀ Ω', P (.dat (.bool true)) Ω'
theorem ok_right (T : Top K mg) {Pw : Addr} (TB : TabB base mg T.cw Pw) (hT : Tb.T (K := K) = [(Pw, lamQ)]) : FnOk P w K mg base CX0 9 T.f__law_right T.d__law_right ["_law_deck_here"] (spA K spRight) := by
  have G__law_draw : FnOk P w K mg base CX0 1 T.f__law_draw T.d__law_draw ["_law_deck_here", "_law_many"] (spA K spDraw) := ok_draw T
  have G__law_setup : FnOk P w K mg base CX0 2 T.f__law_setup T.d__law_setup ["_law_deck_here", "_law_small"] (spA K spSetup) := ok_setup T
  have G__law_seats : FnOk P w K mg base CX0 3 T.f__law_seats T.d__law_seats ["_law_deck_here", "_law_moods", "_law_deaf"] (spA K spSeats) := ok_seats T
  have G__law_row : FnOk P w K mg base CX0 2 T.f__law_row T.d__law_row ["_law_deck_here", "_law_shop", "_law_many"] (spA K spRow1) := ok_row T
  have G__law_beat : FnOk P w K mg base CX0 2 T.f__law_beat T.d__law_beat ["_law_shop", "_law_pews", "_law_standing", "_law_comers_here", "_law_portions"] (spA K spLB) := ok_lbeat T
  have G__law_moved : FnOk P w K mg base CX0 1 T.f__law_moved T.d__law_moved ["_law_pews", "_law_moods"] (spA K spMv) := ok_moved T
  have G_seats_of : FnOk P w K mg base CX0 8 T.f_seats_of T.d_seats_of ["setup", "seats", "row"] (spA K spSeatsOf) := ok_seats_of T TB hT
  have G_seats_after : FnOk P w K mg base CX0 8 T.f_seats_after T.d_seats_after ["setup", "seats", "row"] (spA K spAfter) := ok_seats_after T TB hT
  refine fnA_ok T.D__law_right.F sc__law_right (fun as Ω P ⟨Ω0, p, a, b, c, e, _⟩ => by subst e; rfl) (fun cdv A outer s H E hr => ?_)
  refine ⟨_, (pss_cons (ps_par (i := 1) (j := 2) rfl sc__law_right.nd rfl rfl (by decide) rfl rfl (pa_cons (pe_call G__law_setup (hr.mono (by omega)) rfl T.D__law_setup.g T.D__law_setup.F.kp T.D__law_setup.b .nil pass0 (pa_cons (pv 0) (pa_cons pe_int pa_nil))) (pa_cons (pe_call G__law_seats (hr.mono (by omega)) rfl T.D__law_seats.g T.D__law_seats.F.kp T.D__law_seats.b .nil pass0 (pa_cons (pv 0) (pa_cons (pe_op op_add pe_int (pe_call G__law_draw (hr.mono (by omega)) rfl T.D__law_draw.g T.D__law_draw.F.kp T.D__law_draw.b .nil pass0 (pa_cons (pv 0) (pa_cons pe_int pa_nil)))) (pa_cons pe_bl pa_nil)))) pa_nil)) (by rfl))
    (pss_cons (ps_set (i := 3) sc__law_right.nd rfl (.inl rfl) (pe_call G__law_row (hr.mono (by omega)) rfl T.D__law_row.g T.D__law_row.F.kp T.D__law_row.b .nil pass0 (pa_cons (pv 0) (pa_cons (pv 1) (pa_cons (pe_ix (Dat.ixL (K := K) rfl) (pe_lst (pa_cons (pe_call G__law_draw (hr.mono (by omega)) rfl T.D__law_draw.g T.D__law_draw.F.kp T.D__law_draw.b .nil pass0 (pa_cons (pv 0) (pa_cons pe_int pa_nil))) (pa_cons (pe_call G__law_draw (hr.mono (by omega)) rfl T.D__law_draw.g T.D__law_draw.F.kp T.D__law_draw.b .nil pass0 (pa_cons (pv 0) (pa_cons pe_int pa_nil))) (pa_cons pe_int pa_nil)))) (pe_ix (Dat.ixL (K := K) rfl) (pe_lst (pa_cons pe_int (pa_cons pe_int (pa_cons pe_int (pa_cons pe_int (pa_cons pe_int (pa_cons pe_int (pa_cons pe_int (pa_cons pe_int pa_nil))))))))) (pe_call G__law_draw (hr.mono (by omega)) rfl T.D__law_draw.g T.D__law_draw.F.kp T.D__law_draw.b .nil pass0 (pa_cons (pv 0) (pa_cons pe_int pa_nil))) (fun _ _ => rfl)) (fun _ _ => rfl)) pa_nil)))))
    (pss_cons (ps_asg (pe_tup (pa_cons (pe_callTy (Dat.listQ (K := K) rfl) rfl T.b_list bt_list (pa_cons (pv 3) pa_nil)) (pa_cons (pe_tup (pa_cons (pe_tup pa_nil) (pa_cons pe_int (pa_cons pe_int pa_nil)))) (pa_cons (pe_lst pa_nil) (pa_cons (pe_lst (pa_cons (pe_tup (pa_cons (pe_tup pa_nil) (pa_cons pe_int (pa_cons pe_int pa_nil)))) pa_nil)) pa_nil))))) (Dat.pgT (K := K) (n := 4) rfl rfl (pgs_cons (pg_name (i := 4) sc__law_right.nd rfl (.inl rfl)) (pgs_cons (pg_name (i := 5) sc__law_right.nd rfl (.inl rfl)) (pgs_cons (pg_name (i := 6) sc__law_right.nd rfl (.inl rfl)) (pgs_cons (pg_name (i := 7) sc__law_right.nd rfl (.inl rfl)) pgs_nil))))))
    (pss_cons (ps_for PassesOwn.never rfl (Dat.piL (K := K) rfl (pv 3)) (pg_name (i := 8) sc__law_right.nd rfl (.inl rfl))
      (pss_cons (ps_set (i := 9) sc__law_right.nd rfl (.inl rfl) (pe_call G__law_beat (hr.mono (by omega)) rfl T.D__law_beat.g T.D__law_beat.F.kp T.D__law_beat.b .nil pass0 (pa_cons (pv 1) (pa_cons (pv 2) (pa_cons (pv 5) (pa_cons (pv 8) (pa_cons pe_int pa_nil)))))))
      (pss_cons (ps_set (i := 5) sc__law_right.nd rfl (.inl rfl) (pe_ix (Dat.ixT (K := K) rfl) (pv 9) pe_int (fun _ _ => rfl)))
      (pss_cons (ps_expr (Dat.appQ (K := K) rfl (pv 6) (pa_cons (pe_slice (Dat.slT (K := K) rfl) (pv 9) (po_some pe_int) po_none) pa_nil)))
      (pss_one (ps_expr (Dat.appQ (K := K) rfl (pv 7) (pa_cons (pv 5) pa_nil))))))))
    (pss_cons (ps_set (i := 10) sc__law_right.nd rfl (.inl rfl) (pe_call G_seats_of (hr.mono (by omega)) rfl T.D_seats_of.g T.D_seats_of.F.kp T.D_seats_of.b .nil pass0 (pa_cons (pv 1) (pa_cons (pv 2) (pa_cons (pv 3) pa_nil)))))
    (pss_cons (ps_if (PW.pt (pw_or (pt_cmpR (Dat.neDQ (K := K) rfl (hu64 hr)) (pv 10) (pv 6) (nomark _)) (pw_or (pt_not (pt_val (pe_callB (Dat.isiQ (K := K) rfl) rfl T.b_isinstance bt_isinstance (pa_cons (pv 10) (pa_cons (pe_bltn (v := .ty "list") rfl T.b_list bt_list rfl) pa_nil))))) (pw_or1 (pt_cmpR (Dat.neDQ (K := K) rfl (hu64 hr)) (pv 3) (pv 4) (nomark _))))))
      (pss_one (ps_ret pe_bl))
      pss_nil)
    (pss_cons (ps_expr (Dat.appQ (K := K) rfl (pv 10) (pa_cons pe_non pa_nil)))
    (pss_cons (ps_set (i := 11) sc__law_right.nd rfl (.inl rfl) (pe_call G__law_draw (hr.mono (by omega)) rfl T.D__law_draw.g T.D__law_draw.F.kp T.D__law_draw.b .nil pass0 (pa_cons (pv 0) (pa_cons (pe_op op_add (pe_callB (Dat.lenQ (K := K) rfl) rfl T.b_len bt_len (pa_cons (pv 3) pa_nil)) pe_int) pa_nil))))
    (pss_cons (ps_if (pt_cmpR (Dat.neDQ (K := K) rfl (hu64 hr)) (pe_callN0 G_seats_of (hr.mono (by omega)) rfl T.D_seats_of.g T.D_seats_of.F.kp T.KN_seats_of__row_seats_setup pass0 (pk_cons (pe_slice (Dat.slL (K := K) rfl) (pv 3) po_none (po_some (pv 11))) (pk_cons (pv 2) (pk_cons (pv 1) pk_nil)))) (pe_slice (Dat.slL (K := K) rfl) (pv 6) po_none (po_some (pv 11))) (nomark _))
      (pss_one (ps_ret pe_bl))
      pss_nil)
    (pss_cons (ps_if (pt_cmpR (Dat.neDQ (K := K) rfl (hu64 hr)) (pe_call G_seats_after (hr.mono (by omega)) rfl T.D_seats_after.g T.D_seats_after.F.kp T.D_seats_after.b .nil pass0 (pa_cons (pv 1) (pa_cons (pv 2) (pa_cons (pv 3) pa_nil)))) (pv 5) (nomark _))
      (pss_one (ps_ret pe_bl))
      pss_nil)
    (pss_cons (ps_if (pt_cmpR (Dat.neDQ (K := K) rfl (hu64 hr)) (pe_callN0 G_seats_after (hr.mono (by omega)) rfl T.D_seats_after.g T.D_seats_after.F.kp T.KN_seats_after__row_seats_setup pass0 (pk_cons (pe_slice (Dat.slL (K := K) rfl) (pv 3) po_none (po_some (pv 11))) (pk_cons (pv 2) (pk_cons (pv 1) pk_nil)))) (pe_ix (Dat.ixL (K := K) rfl) (pv 7) (pv 11) (fun _ _ => rfl)) (nomark _))
      (pss_one (ps_ret pe_bl))
      pss_nil)
    (pss_cons (ps_set (i := 12) sc__law_right.nd rfl (.inl rfl) (pe_tup (pa_cons pe_int (pa_cons (pe_tup (pa_cons pe_int (pa_cons pe_int pa_nil))) (pa_cons (pe_tup (pa_cons pe_int (pa_cons pe_int pa_nil))) (pa_cons (pe_tup (pa_cons pe_int (pa_cons pe_int pa_nil))) (pa_cons (pe_tup (pa_cons pe_int (pa_cons pe_int pa_nil))) (pa_cons pe_str (pa_cons pe_int pa_nil)))))))))
    (pss_cons (ps_set (i := 13) sc__law_right.nd rfl (.inl rfl) (pe_call G__law_moved (hr.mono (by omega)) rfl T.D__law_moved.g T.D__law_moved.F.kp T.D__law_moved.b .nil pass0 (pa_cons (pv 2) (pa_cons (pe_lst (pa_cons pe_int (pa_cons pe_int (pa_cons pe_int pa_nil)))) pa_nil))))
    (pss_cons (ps_if (pt_cmpR (Dat.neDQ (K := K) rfl (hu64 hr)) (pe_call G_seats_of (hr.mono (by omega)) rfl T.D_seats_of.g T.D_seats_of.F.kp T.D_seats_of.b .nil pass0 (pa_cons (pv 1) (pa_cons (pe_op (Dat.catT (K := K) rfl) (pe_slice (Dat.slT (K := K) rfl) (pv 2) po_none (po_some pe_int)) (pe_tup (pa_cons (pv 12) pa_nil))) (pa_cons (pv 3) pa_nil)))) (pe_call G_seats_of (hr.mono (by omega)) rfl T.D_seats_of.g T.D_seats_of.F.kp T.D_seats_of.b .nil pass0 (pa_cons (pv 1) (pa_cons (pe_slice (Dat.slT (K := K) rfl) (pv 2) po_none (po_some pe_int)) (pa_cons (pv 3) pa_nil)))) (nomark _))
      (pss_one (ps_ret pe_bl))
      pss_nil)
    (pss_cons (ps_if (pt_cmpR (Dat.neDQ (K := K) rfl (hu64 hr)) (pe_call G_seats_of (hr.mono (by omega)) rfl T.D_seats_of.g T.D_seats_of.F.kp T.D_seats_of.b .nil pass0 (pa_cons (pv 1) (pa_cons (pv 13) (pa_cons (pv 3) pa_nil)))) (pv 6) (nomark _))
      (pss_one (ps_ret pe_bl))
      pss_nil)
    (pss_cons (ps_set (i := 14) sc__law_right.nd rfl (.inl rfl) (pe_call G_seats_after (hr.mono (by omega)) rfl T.D_seats_after.g T.D_seats_after.F.kp T.D_seats_after.b .nil pass0 (pa_cons (pv 1) (pa_cons (pv 13) (pa_cons (pv 3) pa_nil)))))
    (pss_one (ps_ret (pe_and (pe_cmpR (Dat.eqDQ (K := K) rfl (hu64 hr)) (pv 14) (pe_op (Dat.catT (K := K) rfl) (pe_slice (Dat.slT (K := K) rfl) (pv 5) po_none (po_some pe_int)) (pe_tup (pa_cons (pe_ix (Dat.ixL (K := K) rfl) (pe_lst (pa_cons pe_int (pa_cons pe_int (pa_cons pe_int pa_nil)))) (pe_ix (Dat.ixT (K := K) rfl) (pv 5) pe_int (fun _ _ => rfl)) (fun _ _ => rfl)) pa_nil))) (nomark _)) (pe_one (pe_cmpR (Dat.eqDQ (K := K) rfl (hu64 hr)) (pv 3) (pv 4) (nomark _)))))))))))))))))))))), ?_⟩
  rintro as Ω P ⟨Ω0, p, a, b, c, rfl, rfl, h⟩
  refine s_seq (s_par (a_cons (e_call (a_cons (e_var rfl (a_cons (e_int (a_nil ⟨Ω0, p, 0, a, b, c, rfl, rfl, by decide, by decide, fun d a b c hd => ?_⟩))))))))
  obtain ⟨s, rfl, so⟩ := shop_of hd
  refine a_cons (e_call (a_cons (e_var rfl (a_cons (e_op (e_int (e_drawN rfl (by decide) (by decide) fun v a b c v0 v1 => r_I0i (a_cons (e_bl (a_nil ⟨Ω0, p, _, a, b, c, rfl, rfl, by omega, by omega, fun rs a b c ro => a_nil ⟨_, _, rfl, ?_⟩⟩))))))))))
  refine s_seq (s_asg (e_call (a_cons (e_var rfl (a_cons (e_var rfl (a_cons (EW.mono (P := fun x Ω' => ∃ m a b c : Int, x = .dat (.int m) ∧ 0 ≤ m ∧ m ≤ 200 ∧ Ω' = put Ω0 p (deckL a b c)) ?_ ?_))))))))
  · refine e_op (e_lstD (a_cons (e_drawN rfl (by decide) (by decide) fun v a b c v0 v1 => a_cons (e_drawN rfl (by decide) (by decide) fun u a b c u0 u1 => a_cons (e_int (a_nil ⟨[.int v, .int u, .int 200], .cons (.cons (.cons .nil)), rfl, ?_⟩))))))
    refine e_op (e_lits [0, 0, 0, 1, 1, 1, 1, 2] (e_drawN rfl (by decide) (by decide) fun y a b c y0 y1 => r_ixL_ints 0 2 rfl (by decide) y0 y1 fun n n0 n1 => ?_))
    rcases (show n = 0 ∨ n = 1 ∨ n = 2 by omega) with rfl | rfl | rfl
    · exact r_ixL rfl ⟨v, a, b, c, rfl, by omega, by omega, rfl⟩
    · exact r_ixL rfl ⟨u, a, b, c, rfl, by omega, by omega, rfl⟩
    · exact r_ixL rfl ⟨200, a, b, c, rfl, by omega, by omega, rfl⟩
  rintro _ _ ⟨m, a, b, c, rfl, m0, m2, rfl⟩
  refine a_nil ⟨Ω0, p, s, m, a, b, c, rfl, rfl, so, m0, m2, fun cs a b c hl co => ?_⟩
  refine s_seq (s_asgG (e_tupA (a_cons (e_cb (a_cons (e_var rfl (a_nil (c_listL ?_))))))))
  refine a_cons (e_tupD (a_cons (e_tupD (a_nil ⟨[], .nil, rfl, a_cons (e_int (a_cons (e_int (a_nil ⟨_, .cons (.cons (.cons .nil)), rfl, ?_⟩))))⟩))))
  refine a_cons (e_lstP (a_nil ⟨by simp, fun pq nq => ?_⟩))
  refine a_cons (e_lstP (a_cons (e_tupD (a_cons (e_tupD (a_nil ⟨[], .nil, rfl, a_cons (e_int (a_cons (e_int (a_nil ⟨_, .cons (.cons (.cons .nil)), rfl, a_nil ⟨by simp, fun pz nz => ?_⟩⟩))))⟩))))))
  have nz' : ∀ A, (put (put Ω0 p (deckL a b c)) pq A) pz = none := fun A => by
    have : pz ≠ pq := fun e => by rw [e, put_same] at nz; cases nz
    rw [put_ne this] at nz ⊢
    exact nz
  have ne : pz ≠ pq := fun e => by rw [e, put_same] at nz; cases nz
  refine a_nil ⟨by simp, g_tupA rfl (gs_cons (g_name ⟨rfl, gs_cons (g_name ⟨rfl, gs_cons (g_name ⟨rfl, gs_cons (g_name ⟨rfl, gs_nil ?_⟩)⟩)⟩)⟩))⟩
  refine s_seqM (fun Γ' Ω' => ∃ x y, Γ' = [some (.ptr p), some (.dat s.enc), some (.dat (rules rs)), some (.dat (.list (cs.map Com.enc))), some (.dat (.list (cs.map Com.enc))), some (.dat (run s rs cs (t0, [])).1.enc), some (.ptr pq), some (.ptr pz), x, y, none, none, none, none, none] ∧
    Ω' = put (put (put Ω0 p (deckL a b c)) pq (encW (run s rs cs (t0, [])).2)) pz ((encS s rs cs (cs.length + 1)).map .dat)) ?_ ?_
  · refine s_for (fun as i Γ' Ω' => as = (cs.map Com.enc).map .dat ∧ ∃ (t : St) (ws : List Wd) (x y : Option Av), run s rs cs (t0, []) = run s rs (cs.drop i) (t, ws) ∧ run s rs (cs.take i) (t0, []) = (t, ws) ∧ StOk s t ∧ ws.length = i ∧
      Γ' = [some (.ptr p), some (.dat s.enc), some (.dat (rules rs)), some (.dat (.list (cs.map Com.enc))), some (.dat (.list (cs.map Com.enc))), some (.dat t.enc), some (.ptr pq), some (.ptr pz), x, y, none, none, none, none, none] ∧
      Ω' = put (put (put Ω0 p (deckL a b c)) pq (encW ws)) pz ((encS s rs cs (i + 1)).map .dat)) ?_
    refine i_list (e_var rfl ⟨_, rfl, ⟨rfl, t0, [], none, none, rfl, by rw [List.take_zero]; rfl, t0_ok so, rfl, rfl, rfl⟩, ?_, ?_⟩)
    · rintro i it Γ' Ω' hit ⟨_, t, ws, x, y, hr1, hr2, to, lw, rfl, rfl⟩
      obtain ⟨c', ec, rfl⟩ := com_at hit
      have hi := (List.getElem?_eq_some_iff.mp ec).1
      have oc := co c' (List.mem_of_getElem? ec)
      refine g_name (s_seq (s_asg (e_call (a_cons (e_var rfl (a_cons (e_var rfl (a_cons (e_var rfl (a_cons (e_var rfl (a_cons (e_int (a_nil ⟨s, rs, t, c', rfl, so, ro, to, oc, ?_⟩))))))))))))))
      refine s_seq (s_asg (e_op (e_var rfl (e_int (r_ixT rfl ?_)))))
      refine s_seq (s_drop (e_app (e_var rfl ⟨pq, rfl, ⟨_, by rw [put_ne ne.symm, put_same]⟩, a_cons (e_slT (e_var rfl ⟨_, rfl, o_some (e_int ⟨_, rfl, o_no (a_nil ⟨_, _, rfl, by rw [put_ne ne.symm, put_same], by rw [List.length_map, List.length_map]; omega, ?_⟩)⟩)⟩))⟩)))
      refine s_drop (e_app (e_var rfl ⟨pz, rfl, ⟨_, by rw [put_ne ne, put_same]⟩, a_cons (e_var rfl (a_nil ⟨_, _, rfl, by rw [put_ne ne, put_same], by rw [List.length_map, List.length_map, List.length_range]; omega, ?_⟩))⟩))
      have hr3 : run s rs (cs.take (i + 1)) (t0, []) = (stOf (beatF s rs t c'), ws ++ [beatW s rs t c']) := by
        rw [List.take_add_one, ec]
        show run s rs (cs.take i ++ [c']) (t0, []) = _
        rw [run_app, hr2]
        rfl
      refine ⟨rfl, stOf (beatF s rs t c'), ws ++ [beatW s rs t c'], _, _, hr1.trans (run_snoc ec), hr3, (beat_ok so ro oc to).st, by rw [List.length_append, lw]; rfl, rfl, ?_⟩
      have eS : (encS s rs cs (i + 1 + 1)).map Av.dat = (encS s rs cs (i + 1)).map Av.dat ++ [.dat (stOf (beatF s rs t c')).enc] := by
        unfold encS
        rw [List.range_succ (n := i + 1), List.map_append, List.map_append]
        show _ ++ [Av.dat (run s rs (cs.take (i + 1)) (t0, [])).1.enc] = _
        rw [hr3]
      rw [put4 ne, eS, show encW (ws ++ [beatW s rs t c']) = encW ws ++ [.dat (beatW s rs t c').enc] by rw [encW, List.map_append, List.map_append]; rfl]
      rfl
    · rintro Γ' Ω' ⟨_, t, ws, x, y, hr1, hr2, to, lw, rfl, rfl⟩
      rw [List.length_map, List.length_map, List.drop_length] at hr1
      rw [hr1, List.length_map, List.length_map]
      exact ⟨x, y, rfl, rfl⟩
  rintro Γ' Ω' ⟨x, y, rfl, rfl⟩
  refine s_frz 7 rfl put_same ?_
  rw [del_put (nz' _)]
  refine s_frz 6 rfl put_same ?_
  rw [del_put nq]
  obtain ⟨R, hR⟩ : ∃ R, R = run s rs cs (t0, []) := ⟨_, rfl⟩
  have hRo : StOk s R.1 := by rw [hR]; exact run_ok so ro.all co (t0_ok so)
  rw [← hR]
  have hRl : R.2.length = cs.length := by
    rw [hR]
    obtain ⟨us, h1, h2⟩ := run_words (s := s) (rs := rs) (cs := cs) (t := t0) (ws := [])
    rw [h1, List.nil_append, h2]
  have shW : ∀ ws : List Wd, SeqAt.shaped (.list (ws.map Wd.enc)) = true := fun ws => (lay_ws ws).shaped (by decide)
  have shC : ∀ cs : List Com, SeqAt.shaped (.list (cs.map Com.enc)) = true := fun ws => (lay_cs ws).shaped (by decide)
  have shS : ∀ t : St, SeqAt.shaped t.enc = true := fun t => (lay_st t).shaped (by decide)
  refine s_seq (s_asg (e_call (a_cons (e_var rfl (a_cons (e_var rfl (a_cons (e_var rfl (a_nil ⟨s, rs, cs, rfl, so, ro, co, hl, fun pf nf => ?_⟩)))))))))
  rw [← hR]
  refine s_seq (s_ifB (b := false || (!true || false)) (t_orB ?_ fun _ => t_orB ?_ fun _ => ?_) nofun fun _ => s_next ?_)
  · exact t_ofC (e_op (e_var rfl (e_var rfl (r_neP put_same (shW _) (shW _) ⟨by rw [eqv_lay (lay_ws _)]; rfl, rfl⟩))))
  · exact t_notB (t_ofB (e_cb (a_cons (e_var rfl (a_cons (e_ty (a_nil (c_isiP put_same rfl ⟨rfl, rfl⟩))))))))
  · exact t_ofC (e_op (e_var rfl (e_var rfl (r_neD (shC _) (shC _) ⟨by rw [eqv_lay (lay_cs _)]; rfl, rfl⟩))))
  refine s_seq (s_drop (e_app (e_var rfl ⟨pf, rfl, ⟨_, put_same⟩, a_cons (e_non (a_nil ⟨_, _, rfl, put_same, by rw [List.length_map, List.length_map, hRl]; omega, ?_⟩))⟩)))
  refine s_forget (ds := R.2.map Wd.enc ++ [.none]) (p := pf) (by rw [put_same, List.map_append]; rfl) ?_
  rw [put_put, del_put nf]
  refine s_seq (s_asg (e_draw rfl (e_op (e_cb (a_cons (e_var rfl (a_nil (c_lenL (e_int (r_I0i ⟨_, a, b, c, rfl, rfl, by omega, by rw [List.length_map]; omega, fun m a b c m0 m1 => ?_⟩))))))))))
  obtain ⟨k, rfl⟩ : ∃ k : Nat, m = k := ⟨m.toNat, (Int.toNat_of_nonneg m0).symm⟩
  have hk : k ≤ cs.length := by
    rw [List.length_map] at m1
    omega
  have cok : ∀ c ∈ cs.take k, Com.Ok s c := fun c hc => co c (List.mem_of_mem_take hc)
  have hlk : (cs.take k).length ≤ 200 := by
    rw [List.length_take]
    omega
  refine s_seq (s_ifB (b := false) (t_ofC ?_) nofun fun _ => s_next ?_)
  · refine e_op (EW.frz (e_callK (a_cons (e_slL (e_var rfl ⟨_, rfl, o_no (o_some (e_var rfl ⟨_, rfl, ?_⟩))⟩)))))
    rw [cutTake hk]
    refine a_cons (e_var rfl (a_cons (e_var rfl (a_nil ⟨rfl, s, rs, cs.take k, rfl, so, ro, cok, hlk, fun q nq' => ⟨q, (run s rs (cs.take k) (t0, [])).2.map Wd.enc, rfl, put_same, ?_⟩⟩))))
    rw [del_put nq']
    refine e_slL (e_var rfl ⟨_, rfl, o_no (o_some (e_var rfl ⟨_, rfl, ?_⟩))⟩)
    rw [cutTake (by rw [hRl]; exact hk), run_take k hk, ← hR]
    exact r_neD (shW _) (shW _) ⟨by rw [eqv_lay (lay_ws _)]; rfl, rfl⟩
  refine s_seq (s_ifB (b := false) (t_ofC ?_) nofun fun _ => s_next ?_)
  · refine e_op (e_call (a_cons (e_var rfl (a_cons (e_var rfl (a_cons (e_var rfl (a_nil ⟨s, rs, cs, rfl, so, ro, co, hl, e_var rfl ?_⟩))))))))
    rw [← hR]
    exact r_neD (shS _) (shS _) ⟨by rw [eqv_lay (lay_st _)]; rfl, rfl⟩
  refine s_seq (s_ifB (b := false) (t_ofC ?_) nofun fun _ => s_next ?_)
  · refine e_op (e_callK (a_cons (e_slL (e_var rfl ⟨_, rfl, o_no (o_some (e_var rfl ⟨_, rfl, ?_⟩))⟩))))
    rw [cutTake hk]
    refine a_cons (e_var rfl (a_cons (e_var rfl (a_nil ⟨rfl, s, rs, cs.take k, rfl, so, ro, cok, hlk, ?_⟩))))
    refine e_op (e_var rfl (e_var rfl (r_ixL (d := (run s rs (cs.take k) (t0, [])).1.enc) (atI_nat' (by rw [List.getElem?_map, List.getElem?_range (by omega)]; rfl)) ?_)))
    exact r_neD (shS _) (shS _) ⟨by rw [eqv_lay (lay_st _)]; rfl, rfl⟩
  refine s_seq (s_asg (e_tupD (a_cons (e_int (a_cons (e_tupD (a_cons (e_int (a_cons (e_int (a_nil ⟨_, .cons (.cons .nil), rfl, ?_⟩)))))))))))
  refine a_cons (e_tupD (a_cons (e_int (a_cons (e_int (a_nil ⟨_, .cons (.cons .nil), rfl, ?_⟩))))))
  refine a_cons (e_tupD (a_cons (e_int (a_cons (e_int (a_nil ⟨_, .cons (.cons .nil), rfl, ?_⟩))))))
  refine a_cons (e_tupD (a_cons (e_int (a_cons (e_int (a_nil ⟨_, .cons (.cons .nil), rfl, ?_⟩))))))
  refine a_cons (e_str (a_cons (e_int (a_nil ⟨_, .cons (.cons (.cons (.cons (.cons (.cons (.cons .nil)))))), rfl, ?_⟩))))
  refine s_seq (s_asg (e_call (a_cons (e_var rfl (a_cons (e_lits [0, 2, 1] (a_nil ⟨rs, rfl, ro, ?_⟩)))))))
  have ro5 : RsOk (rs.take 5) := ⟨by have := ro.len; rw [List.length_take]; omega, fun r hr => ro.all r (List.mem_of_mem_take hr)⟩
  have ro6 : RsOk (rs.take 5 ++ [nv]) := ⟨by rw [List.length_append, List.length_take]; show _ + 1 ≤ 6; omega, fun r hr => by
    rcases List.mem_append.mp hr with hr | hr
    · exact ro5.all r hr
    · rw [List.mem_singleton.mp hr]
      exact nv_ok⟩
  have rom : RsOk (rs.map mv) := ⟨by rw [List.length_map]; exact ro.len, fun r hr => by
    obtain ⟨r', hr', rfl⟩ := List.mem_map.mp hr
    exact mv_ok (ro.all r' hr')⟩
  have em : run s (rs.map mv) cs (t0, []) = (mvS R.1, R.2) := by
    rw [hR]
    exact run_mv (t := t0) so ro.all co (t0_ok so)
  refine s_seq (s_ifB (b := false) (t_ofC ?_) nofun fun _ => s_next ?_)
  · refine e_op (EW.frz (e_call (a_cons (e_var rfl (a_cons (e_op (e_slT (e_var rfl ⟨_, rfl, o_no (o_some (e_int ⟨_, rfl, ?_⟩))⟩))))))))
    rw [cutTake5]
    refine e_tupD (a_cons (e_var rfl (a_nil ⟨_, .cons .nil, rfl, r_catT (by rw [List.length_map]; have := ro5.len; show _ + 1 ≤ _; omega) ?_⟩)))
    refine a_cons (e_var rfl (a_nil ⟨s, rs.take 5 ++ [nv], cs, ?_, so, ro6, co, hl, fun q nq' => ⟨q, _, rfl, put_same, ?_⟩⟩))
    · rw [show rules (rs.take 5 ++ [nv]) = .tuple ((rs.take 5).map Rw.enc ++ [nv.enc]) from congrArg PyData.tuple List.map_append]
      rfl
    rw [del_put nq', run_nv so ro5.all co (t0_ok so)]
    refine EW.frz (e_call (a_cons (e_var rfl (a_cons (e_slT (e_var rfl ⟨_, rfl, o_no (o_some (e_int ⟨_, rfl, ?_⟩))⟩))))))
    rw [cutTake5]
    refine a_cons (e_var rfl (a_nil ⟨s, rs.take 5, cs, rfl, so, ro5, co, hl, fun q nq' => ⟨q, _, rfl, put_same, ?_⟩⟩))
    rw [del_put nq']
    exact r_neD (shW _) (shW _) ⟨by rw [eqv_lay (lay_ws _)]; rfl, rfl⟩
  refine s_seq (s_ifB (b := false) (t_ofC ?_) nofun fun _ => s_next ?_)
  · refine e_op (EW.frz (e_call (a_cons (e_var rfl (a_cons (e_var rfl (a_cons (e_var rfl (a_nil ⟨s, rs.map mv, cs, rfl, so, rom, co, hl, fun q nq' => ⟨q, _, rfl, put_same, ?_⟩⟩)))))))))
    rw [del_put nq', em]
    exact e_var rfl (r_neD (shW _) (shW _) ⟨by rw [eqv_lay (lay_ws _)]; rfl, rfl⟩)
  refine s_seq (s_asg (e_call (a_cons (e_var rfl (a_cons (e_var rfl (a_cons (e_var rfl (a_nil ⟨s, rs.map mv, cs, rfl, so, rom, co, hl, ?_⟩)))))))))
  rw [em]
  refine s_retB (b := true && true) (e_andB ?_ fun _ => ?_) (h _)
  · refine e_op (e_var rfl (e_op (e_slT (e_var rfl ⟨_, rfl, o_no (o_some (e_int ⟨_, rfl, ?_⟩))⟩))))
    refine e_tupD (a_cons (e_op (e_lits [0, 2, 1] (e_op (e_var rfl (e_int (r_ixT rfl (r_ixL (pm_at hRo.m0 hRo.m2) (a_nil ⟨_, .cons .nil, rfl, r_catT (Nat.le_of_ble_eq_true rfl) ?_⟩)))))))))
    exact r_eqD (shS (mvS R.1)) (shS (mvS R.1)) ⟨(show Av.dat (PyData.bool (PyData.eqv (mvS R.1).enc (mvS R.1).enc)) = Av.dat (.bool true) by rw [eqv_lay (lay_st _)]), rfl⟩
  · exact e_op (e_var rfl (e_var rfl (r_eqD (shC _) (shC _) ⟨by rw [eqv_lay (lay_cs _)], rfl⟩)))
abbrev spLawA : ASp := fun as Ω P => ∃ ns : List Int, as = [.scr ns] ∧ ns.length ≤ 63 ∧ ∀ Ω', P (.dat (.bool true)) Ω'
theorem ok_law (T : Top K mg) {Pw : Addr} (TB : TabB base mg T.cw Pw) (hT : Tb.T (K := K) = [(Pw, lamQ)]) {f : Addr} {fd : FuncData} (F : L2.Fun K "law" "law" s_law f fd) : FnOk P w K mg base CX0 10 f fd ["_law_script"] (spA K spLawA) := by
  have G__law_deck : FnOk P w K mg base CX0 1 T.f__law_deck T.d__law_deck ["_law_script", "_law_at"] (spA K spDeck) := ok_deck T
  have G__law_right : FnOk P w K mg base CX0 9 T.f__law_right T.d__law_right ["_law_deck_here"] (spA K spRight) := ok_right T TB hT
  refine fnA_ok F sc_law (fun as Ω P ⟨ns, e, _⟩ => by subst e; rfl) (fun cdv A outer s H E hr => ?_)
  refine ⟨_, (pss_cons (ps_for PassesOwn.never rfl (pi_range1 rfl T.b_range (pa_cons (pe_callB (Dat.cl_max2 rfl) rfl T.b_max bt_max (pa_cons pe_int (pa_cons (pe_callB (Dat.cl_min2 rfl) rfl T.b_min bt_min (pa_cons pe_int (pa_cons (pe_callB (Dat.lenQ (K := K) rfl) rfl T.b_len bt_len (pa_cons (pv 0) pa_nil)) pa_nil))) pa_nil))) pa_nil)) (pg_name (i := 1) sc_law.nd rfl (.inl rfl))
      (pss_one (ps_if (pt_not (pt_val (pe_call G__law_right (hr.mono (by omega)) rfl T.D__law_right.g T.D__law_right.F.kp T.D__law_right.b .nil pass0 (pa_cons (pe_call G__law_deck (hr.mono (by omega)) rfl T.D__law_deck.g T.D__law_deck.F.kp T.D__law_deck.b .nil pass0 (pa_cons (pv 0) (pa_cons (pv 1) pa_nil))) pa_nil))))
        (pss_one (ps_ret pe_bl))
        pss_nil)))
    (pss_one (ps_ret pe_bl))), ?_⟩
  rintro as Ω P ⟨ns, rfl, hns, h⟩
  refine s_seqM (fun Γ' Ω' => True) ?_ (fun Γ' Ω' _ => s_ret (e_bl (h _)))
  refine s_for (fun as i Γ' Ω' => as = rngA 0 as.length ∧ ∃ x, Γ' = [some (.scr ns), x]) ?_
  refine i_rng1 (a_cons (e_cb (a_cons (e_int (a_cons (e_cb (a_cons (e_int (a_cons (e_cb (a_cons (e_var rfl (a_nil (c_lenS (a_nil (c_min2 (a_nil (c_max2 (a_nil ⟨_, rfl, ?_, ⟨?_, _, rfl⟩, ?_, fun Γ' Ω' _ => trivial⟩)))))))))))))))))))
  · constructor <;> (repeat' split) <;> omega
  · simp [rngA]
  · rintro i it Γ' Ω' hit ⟨eas, x, rfl⟩
    have hit' := hit
    unfold rngA at hit'
    rw [List.getElem?_map] at hit'
    obtain ⟨j, hj, rfl⟩ := Option.map_eq_some_iff.mp hit'
    have ej : ((0 : Int) + (j : Nat)) = ((j : Nat) : Int) := by omega
    rw [ej]
    refine g_name (s_if (t_not (t_B (e_call (a_cons (e_call (a_cons (e_var rfl (a_cons (e_var rfl (a_nil ⟨ns, j, rfl, fun p a b c np => a_nil ⟨Ω', p, a, b, c, rfl, rfl, fun Ω2 => ⟨_, rfl, nofun, fun _ => s_next ⟨eas, _, rfl⟩⟩⟩⟩)))))))))))
/-- the law's own promise, from a plain list of the script -/
theorem spLaw_of {Pw : Addr} (hT : Tb.T (K := K) = [(Pw, lamQ)]) {H : Hp} {a : Addr} {ns : List Int} (hl : ns.length ≤ 63) (hP : H Pw = some (.tbl #[])) (hS : SqL K H a (ns.map V.int)) : spA K spLawA [.ref a] H (fun v _ => v = .bl true) fun _ _ _ => False := by
  have of0 : ∀ b, AH0.Off b := fun b => ⟨rfl, rfl⟩
  have hS' : SqL K (Fz AH0 H) a (ns.map V.int) := by
    rcases hS with (h | ⟨o, h⟩) | h
    · exact .inl (.inl (Fz_to (of0 _) h fun q z => nomatch z))
    · exact .inl (.inr ⟨o, Fz_to (of0 _) h fun q z => nomatch z⟩)
    · exact .inr h
  refine ⟨Fz AH0 H, AH0, [.scr ns], fun x _ => x = .dat (.bool true), ⟨Same.refl _, fun p as z => (by cases z), .nil, by rw [hT]; exact fun p hp => by rw [List.mem_singleton.mp hp]; exact TabS.nil hP, fun p u z => (by cases z)⟩, .cons (.scr hS') .nil, ⟨ns, rfl, hl, fun _ => rfl⟩, fun x v Ω' H' hx _ hv => ?_⟩
  subst hx
  cases hv with | dat hv =>
    cases hv
    rfl
end
end K20

set_option Elab.async false
set_option linter.all false
set_option maxRecDepth 100000
set_option maxHeartbeats 4000000
namespace K20
open PySem PySem.Spec PyProof.Rows L2 Dat LamX NdefX Clo
theorem fng_ok {P : Program} {w : World} {K : PySem.W.Frag} {mg : Str → Option Value} {base : Heap} {k : Nat} {f : Addr} {fd : FuncData} {ps : List Str} {sp : Sp} (F : FnOk P w K mg base CX0 k f fd ps sp) : Grd.FnG P w K mg base CX0 k f fd ps sp :=
  ⟨F.len, fun A outer s H args us vs Q E hr _ e0 hb r h => F.run A outer s H args us vs Q E hr e0 hb r h⟩
theorem defAt_mk {h : Heap} {K : PySem.W.Frag} {mg : Str → Option Value} {x : Str} {st : Stmt} {ps : List Str} {f : Addr} {oc : Value} {od an : Option Addr} {osl : Array (Option Value)} {kV doc pm cdv ct : Value} (X : K.In h) (G : h.Ns mainGlobals mg)
    (a : PySem.W.nsIn K mainGlobals x = some (some (.ref f))) (l : K.lookup f = some ⟨oc, od, .func (PySem.W.fnOf x x (defArgs st) (defBody st) (defScope st) .none kV doc pm an cdv ct), osl⟩) (c : PySem.W.codeIn K cdv x = true) (k : PySem.W.keepIn K (.ref f) = true)
    (hb : ∀ (kV doc pm : Value) (an : Option Addr) (cdv ct : Value) (us : List Value), us.length = ps.length → bindArgs (PySem.W.fnOf x x (defArgs st) (defBody st) (defScope st) .none kV doc pm an cdv ct) ⟨us, []⟩ = pure (ps.zip us)) :
    DefAt K mg x st ps [] f (PySem.W.fnOf x x (defArgs st) (defBody st) (defScope st) .none kV doc pm an cdv ct) :=
  ⟨fun_mk l c k, PySem.W.mg_of X G a, (fun_mk l c k).binds hb⟩
theorem all_mk {l : PySem.W.OpenLaw} {w : World} {K : PySem.W.Frag} {h : Heap} {mg : Str → Option Value} {fa cw Pw : Addr} (X : K.In h) (G : h.Ns mainGlobals mg) (hfa : mg "law" = some (.ref fa))
    {f_fitting_row : Addr} {oc_fitting_row : Value} {od_fitting_row an_fitting_row : Option Addr} {sl_fitting_row : Array (Option Value)} {kV_fitting_row dc_fitting_row pm_fitting_row cd_fitting_row ct_fitting_row : Value}
    (a_fitting_row : PySem.W.nsIn K mainGlobals "fitting_row" = some (some (.ref f_fitting_row))) (l_fitting_row : K.lookup f_fitting_row = some ⟨oc_fitting_row, od_fitting_row, .func (PySem.W.fnOf "fitting_row" "fitting_row" (defArgs s_fitting_row) (defBody s_fitting_row) (defScope s_fitting_row) .none kV_fitting_row dc_fitting_row pm_fitting_row an_fitting_row cd_fitting_row ct_fitting_row), sl_fitting_row⟩) (c_fitting_row : PySem.W.codeIn K cd_fitting_row "fitting_row" = true) (k_fitting_row : PySem.W.keepIn K (.ref f_fitting_row) = true)
    {f_within : Addr} {oc_within : Value} {od_within an_within : Option Addr} {sl_within : Array (Option Value)} {kV_within dc_within pm_within cd_within ct_within : Value}
    (a_within : PySem.W.nsIn K mainGlobals "within" = some (some (.ref f_within))) (l_within : K.lookup f_within = some ⟨oc_within, od_within, .func (PySem.W.fnOf "within" "within" (defArgs s_within) (defBody s_within) (defScope s_within) .none kV_within dc_within pm_within an_within cd_within ct_within), sl_within⟩) (c_within : PySem.W.codeIn K cd_within "within" = true) (k_within : PySem.W.keepIn K (.ref f_within) = true)
    {f_come_in : Addr} {oc_come_in : Value} {od_come_in an_come_in : Option Addr} {sl_come_in : Array (Option Value)} {kV_come_in dc_come_in pm_come_in cd_come_in ct_come_in : Value}
    (a_come_in : PySem.W.nsIn K mainGlobals "come_in" = some (some (.ref f_come_in))) (l_come_in : K.lookup f_come_in = some ⟨oc_come_in, od_come_in, .func (PySem.W.fnOf "come_in" "come_in" (defArgs s_come_in) (defBody s_come_in) (defScope s_come_in) .none kV_come_in dc_come_in pm_come_in an_come_in cd_come_in ct_come_in), sl_come_in⟩) (c_come_in : PySem.W.codeIn K cd_come_in "come_in" = true) (k_come_in : PySem.W.keepIn K (.ref f_come_in) = true)
    {f_bench_deeds : Addr} {oc_bench_deeds : Value} {od_bench_deeds an_bench_deeds : Option Addr} {sl_bench_deeds : Array (Option Value)} {kV_bench_deeds dc_bench_deeds pm_bench_deeds cd_bench_deeds ct_bench_deeds : Value}
    (a_bench_deeds : PySem.W.nsIn K mainGlobals "bench_deeds" = some (some (.ref f_bench_deeds))) (l_bench_deeds : K.lookup f_bench_deeds = some ⟨oc_bench_deeds, od_bench_deeds, .func (PySem.W.fnOf "bench_deeds" "bench_deeds" (defArgs s_bench_deeds) (defBody s_bench_deeds) (defScope s_bench_deeds) .none kV_bench_deeds dc_bench_deeds pm_bench_deeds an_bench_deeds cd_bench_deeds ct_bench_deeds), sl_bench_deeds⟩) (c_bench_deeds : PySem.W.codeIn K cd_bench_deeds "bench_deeds" = true) (k_bench_deeds : PySem.W.keepIn K (.ref f_bench_deeds) = true)
    {f_fill_bench : Addr} {oc_fill_bench : Value} {od_fill_bench an_fill_bench : Option Addr} {sl_fill_bench : Array (Option Value)} {kV_fill_bench dc_fill_bench pm_fill_bench cd_fill_bench ct_fill_bench : Value}
    (a_fill_bench : PySem.W.nsIn K mainGlobals "fill_bench" = some (some (.ref f_fill_bench))) (l_fill_bench : K.lookup f_fill_bench = some ⟨oc_fill_bench, od_fill_bench, .func (PySem.W.fnOf "fill_bench" "fill_bench" (defArgs s_fill_bench) (defBody s_fill_bench) (defScope s_fill_bench) .none kV_fill_bench dc_fill_bench pm_fill_bench an_fill_bench cd_fill_bench ct_fill_bench), sl_fill_bench⟩) (c_fill_bench : PySem.W.codeIn K cd_fill_bench "fill_bench" = true) (k_fill_bench : PySem.W.keepIn K (.ref f_fill_bench) = true)
    {f_bench_beat : Addr} {oc_bench_beat : Value} {od_bench_beat an_bench_beat : Option Addr} {sl_bench_beat : Array (Option Value)} {kV_bench_beat dc_bench_beat pm_bench_beat cd_bench_beat ct_bench_beat : Value}
    (a_bench_beat : PySem.W.nsIn K mainGlobals "bench_beat" = some (some (.ref f_bench_beat))) (l_bench_beat : K.lookup f_bench_beat = some ⟨oc_bench_beat, od_bench_beat, .func (PySem.W.fnOf "bench_beat" "bench_beat" (defArgs s_bench_beat) (defBody s_bench_beat) (defScope s_bench_beat) .none kV_bench_beat dc_bench_beat pm_bench_beat an_bench_beat cd_bench_beat ct_bench_beat), sl_bench_beat⟩) (c_bench_beat : PySem.W.codeIn K cd_bench_beat "bench_beat" = true) (k_bench_beat : PySem.W.keepIn K (.ref f_bench_beat) = true)
    {f_is_whole : Addr} {oc_is_whole : Value} {od_is_whole an_is_whole : Option Addr} {sl_is_whole : Array (Option Value)} {kV_is_whole dc_is_whole pm_is_whole cd_is_whole ct_is_whole : Value}
    (a_is_whole : PySem.W.nsIn K mainGlobals "is_whole" = some (some (.ref f_is_whole))) (l_is_whole : K.lookup f_is_whole = some ⟨oc_is_whole, od_is_whole, .func (PySem.W.fnOf "is_whole" "is_whole" (defArgs s_is_whole) (defBody s_is_whole) (defScope s_is_whole) .none kV_is_whole dc_is_whole pm_is_whole an_is_whole cd_is_whole ct_is_whole), sl_is_whole⟩) (c_is_whole : PySem.W.codeIn K cd_is_whole "is_whole" = true) (k_is_whole : PySem.W.keepIn K (.ref f_is_whole) = true)
    {f_is_whole_in : Addr} {oc_is_whole_in : Value} {od_is_whole_in an_is_whole_in : Option Addr} {sl_is_whole_in : Array (Option Value)} {kV_is_whole_in dc_is_whole_in pm_is_whole_in cd_is_whole_in ct_is_whole_in : Value}
    (a_is_whole_in : PySem.W.nsIn K mainGlobals "is_whole_in" = some (some (.ref f_is_whole_in))) (l_is_whole_in : K.lookup f_is_whole_in = some ⟨oc_is_whole_in, od_is_whole_in, .func (PySem.W.fnOf "is_whole_in" "is_whole_in" (defArgs s_is_whole_in) (defBody s_is_whole_in) (defScope s_is_whole_in) .none kV_is_whole_in dc_is_whole_in pm_is_whole_in an_is_whole_in cd_is_whole_in ct_is_whole_in), sl_is_whole_in⟩) (c_is_whole_in : PySem.W.codeIn K cd_is_whole_in "is_whole_in" = true) (k_is_whole_in : PySem.W.keepIn K (.ref f_is_whole_in) = true)
    {f_is_pair : Addr} {oc_is_pair : Value} {od_is_pair an_is_pair : Option Addr} {sl_is_pair : Array (Option Value)} {kV_is_pair dc_is_pair pm_is_pair cd_is_pair ct_is_pair : Value}
    (a_is_pair : PySem.W.nsIn K mainGlobals "is_pair" = some (some (.ref f_is_pair))) (l_is_pair : K.lookup f_is_pair = some ⟨oc_is_pair, od_is_pair, .func (PySem.W.fnOf "is_pair" "is_pair" (defArgs s_is_pair) (defBody s_is_pair) (defScope s_is_pair) .none kV_is_pair dc_is_pair pm_is_pair an_is_pair cd_is_pair ct_is_pair), sl_is_pair⟩) (c_is_pair : PySem.W.codeIn K cd_is_pair "is_pair" = true) (k_is_pair : PySem.W.keepIn K (.ref f_is_pair) = true)
    {f_fault_in : Addr} {oc_fault_in : Value} {od_fault_in an_fault_in : Option Addr} {sl_fault_in : Array (Option Value)} {kV_fault_in dc_fault_in pm_fault_in cd_fault_in ct_fault_in : Value}
    (a_fault_in : PySem.W.nsIn K mainGlobals "fault_in" = some (some (.ref f_fault_in))) (l_fault_in : K.lookup f_fault_in = some ⟨oc_fault_in, od_fault_in, .func (PySem.W.fnOf "fault_in" "fault_in" (defArgs s_fault_in) (defBody s_fault_in) (defScope s_fault_in) .none kV_fault_in dc_fault_in pm_fault_in an_fault_in cd_fault_in ct_fault_in), sl_fault_in⟩) (c_fault_in : PySem.W.codeIn K cd_fault_in "fault_in" = true) (k_fault_in : PySem.W.keepIn K (.ref f_fault_in) = true)
    {f_is_setup : Addr} {oc_is_setup : Value} {od_is_setup an_is_setup : Option Addr} {sl_is_setup : Array (Option Value)} {kV_is_setup dc_is_setup pm_is_setup cd_is_setup ct_is_setup : Value}
    (a_is_setup : PySem.W.nsIn K mainGlobals "is_setup" = some (some (.ref f_is_setup))) (l_is_setup : K.lookup f_is_setup = some ⟨oc_is_setup, od_is_setup, .func (PySem.W.fnOf "is_setup" "is_setup" (defArgs s_is_setup) (defBody s_is_setup) (defScope s_is_setup) .none kV_is_setup dc_is_setup pm_is_setup an_is_setup cd_is_setup ct_is_setup), sl_is_setup⟩) (c_is_setup : PySem.W.codeIn K cd_is_setup "is_setup" = true) (k_is_setup : PySem.W.keepIn K (.ref f_is_setup) = true)
    {f_is_choice : Addr} {oc_is_choice : Value} {od_is_choice an_is_choice : Option Addr} {sl_is_choice : Array (Option Value)} {kV_is_choice dc_is_choice pm_is_choice cd_is_choice ct_is_choice : Value}
    (a_is_choice : PySem.W.nsIn K mainGlobals "is_choice" = some (some (.ref f_is_choice))) (l_is_choice : K.lookup f_is_choice = some ⟨oc_is_choice, od_is_choice, .func (PySem.W.fnOf "is_choice" "is_choice" (defArgs s_is_choice) (defBody s_is_choice) (defScope s_is_choice) .none kV_is_choice dc_is_choice pm_is_choice an_is_choice cd_is_choice ct_is_choice), sl_is_choice⟩) (c_is_choice : PySem.W.codeIn K cd_is_choice "is_choice" = true) (k_is_choice : PySem.W.keepIn K (.ref f_is_choice) = true)
    {f_check_setup : Addr} {oc_check_setup : Value} {od_check_setup an_check_setup : Option Addr} {sl_check_setup : Array (Option Value)} {kV_check_setup dc_check_setup pm_check_setup cd_check_setup ct_check_setup : Value}
    (a_check_setup : PySem.W.nsIn K mainGlobals "check_setup" = some (some (.ref f_check_setup))) (l_check_setup : K.lookup f_check_setup = some ⟨oc_check_setup, od_check_setup, .func (PySem.W.fnOf "check_setup" "check_setup" (defArgs s_check_setup) (defBody s_check_setup) (defScope s_check_setup) .none kV_check_setup dc_check_setup pm_check_setup an_check_setup cd_check_setup ct_check_setup), sl_check_setup⟩) (c_check_setup : PySem.W.codeIn K cd_check_setup "check_setup" = true) (k_check_setup : PySem.W.keepIn K (.ref f_check_setup) = true)
    {f_is_comers : Addr} {oc_is_comers : Value} {od_is_comers an_is_comers : Option Addr} {sl_is_comers : Array (Option Value)} {kV_is_comers dc_is_comers pm_is_comers cd_is_comers ct_is_comers : Value}
    (a_is_comers : PySem.W.nsIn K mainGlobals "is_comers" = some (some (.ref f_is_comers))) (l_is_comers : K.lookup f_is_comers = some ⟨oc_is_comers, od_is_comers, .func (PySem.W.fnOf "is_comers" "is_comers" (defArgs s_is_comers) (defBody s_is_comers) (defScope s_is_comers) .none kV_is_comers dc_is_comers pm_is_comers an_is_comers cd_is_comers ct_is_comers), sl_is_comers⟩) (c_is_comers : PySem.W.codeIn K cd_is_comers "is_comers" = true) (k_is_comers : PySem.W.keepIn K (.ref f_is_comers) = true)
    {f_check_row : Addr} {oc_check_row : Value} {od_check_row an_check_row : Option Addr} {sl_check_row : Array (Option Value)} {kV_check_row dc_check_row pm_check_row ct_check_row : Value} {p_DFL : Addr}
    (a_check_row : PySem.W.nsIn K mainGlobals "check_row" = some (some (.ref f_check_row))) (l_check_row : K.lookup f_check_row = some ⟨oc_check_row, od_check_row, .func (PySem.W.fnOf "check_row" "check_row" (defArgs s_check_row) (defBody s_check_row) (defScope s_check_row) (.ref p_DFL) kV_check_row dc_check_row pm_check_row an_check_row (.ref cw) ct_check_row), sl_check_row⟩) (c_check_row : PySem.W.codeIn K (.ref cw) "check_row" = true) (k_check_row : PySem.W.keepIn K (.ref f_check_row) = true)
    {f_is_half : Addr} {oc_is_half : Value} {od_is_half an_is_half : Option Addr} {sl_is_half : Array (Option Value)} {kV_is_half dc_is_half pm_is_half cd_is_half ct_is_half : Value}
    (a_is_half : PySem.W.nsIn K mainGlobals "is_half" = some (some (.ref f_is_half))) (l_is_half : K.lookup f_is_half = some ⟨oc_is_half, od_is_half, .func (PySem.W.fnOf "is_half" "is_half" (defArgs s_is_half) (defBody s_is_half) (defScope s_is_half) .none kV_is_half dc_is_half pm_is_half an_is_half cd_is_half ct_is_half), sl_is_half⟩) (c_is_half : PySem.W.codeIn K cd_is_half "is_half" = true) (k_is_half : PySem.W.keepIn K (.ref f_is_half) = true)
    {f_is_rule_row : Addr} {oc_is_rule_row : Value} {od_is_rule_row an_is_rule_row : Option Addr} {sl_is_rule_row : Array (Option Value)} {kV_is_rule_row dc_is_rule_row pm_is_rule_row cd_is_rule_row ct_is_rule_row : Value}
    (a_is_rule_row : PySem.W.nsIn K mainGlobals "is_rule_row" = some (some (.ref f_is_rule_row))) (l_is_rule_row : K.lookup f_is_rule_row = some ⟨oc_is_rule_row, od_is_rule_row, .func (PySem.W.fnOf "is_rule_row" "is_rule_row" (defArgs s_is_rule_row) (defBody s_is_rule_row) (defScope s_is_rule_row) .none kV_is_rule_row dc_is_rule_row pm_is_rule_row an_is_rule_row cd_is_rule_row ct_is_rule_row), sl_is_rule_row⟩) (c_is_rule_row : PySem.W.codeIn K cd_is_rule_row "is_rule_row" = true) (k_is_rule_row : PySem.W.keepIn K (.ref f_is_rule_row) = true)
    {f_is_span : Addr} {oc_is_span : Value} {od_is_span an_is_span : Option Addr} {sl_is_span : Array (Option Value)} {kV_is_span dc_is_span pm_is_span cd_is_span ct_is_span : Value}
    (a_is_span : PySem.W.nsIn K mainGlobals "is_span" = some (some (.ref f_is_span))) (l_is_span : K.lookup f_is_span = some ⟨oc_is_span, od_is_span, .func (PySem.W.fnOf "is_span" "is_span" (defArgs s_is_span) (defBody s_is_span) (defScope s_is_span) .none kV_is_span dc_is_span pm_is_span an_is_span cd_is_span ct_is_span), sl_is_span⟩) (c_is_span : PySem.W.codeIn K cd_is_span "is_span" = true) (k_is_span : PySem.W.keepIn K (.ref f_is_span) = true)
    {f_is_seats : Addr} {oc_is_seats : Value} {od_is_seats an_is_seats : Option Addr} {sl_is_seats : Array (Option Value)} {kV_is_seats dc_is_seats pm_is_seats cd_is_seats ct_is_seats : Value}
    (a_is_seats : PySem.W.nsIn K mainGlobals "is_seats" = some (some (.ref f_is_seats))) (l_is_seats : K.lookup f_is_seats = some ⟨oc_is_seats, od_is_seats, .func (PySem.W.fnOf "is_seats" "is_seats" (defArgs s_is_seats) (defBody s_is_seats) (defScope s_is_seats) .none kV_is_seats dc_is_seats pm_is_seats an_is_seats cd_is_seats ct_is_seats), sl_is_seats⟩) (c_is_seats : PySem.W.codeIn K cd_is_seats "is_seats" = true) (k_is_seats : PySem.W.keepIn K (.ref f_is_seats) = true)
    {f_check_seats : Addr} {oc_check_seats : Value} {od_check_seats an_check_seats : Option Addr} {sl_check_seats : Array (Option Value)} {kV_check_seats dc_check_seats pm_check_seats cd_check_seats ct_check_seats : Value}
    (a_check_seats : PySem.W.nsIn K mainGlobals "check_seats" = some (some (.ref f_check_seats))) (l_check_seats : K.lookup f_check_seats = some ⟨oc_check_seats, od_check_seats, .func (PySem.W.fnOf "check_seats" "check_seats" (defArgs s_check_seats) (defBody s_check_seats) (defScope s_check_seats) .none kV_check_seats dc_check_seats pm_check_seats an_check_seats cd_check_seats ct_check_seats), sl_check_seats⟩) (c_check_seats : PySem.W.codeIn K cd_check_seats "check_seats" = true) (k_check_seats : PySem.W.keepIn K (.ref f_check_seats) = true)
    {f_is_deaf : Addr} {oc_is_deaf : Value} {od_is_deaf an_is_deaf : Option Addr} {sl_is_deaf : Array (Option Value)} {kV_is_deaf dc_is_deaf pm_is_deaf cd_is_deaf ct_is_deaf : Value}
    (a_is_deaf : PySem.W.nsIn K mainGlobals "is_deaf" = some (some (.ref f_is_deaf))) (l_is_deaf : K.lookup f_is_deaf = some ⟨oc_is_deaf, od_is_deaf, .func (PySem.W.fnOf "is_deaf" "is_deaf" (defArgs s_is_deaf) (defBody s_is_deaf) (defScope s_is_deaf) .none kV_is_deaf dc_is_deaf pm_is_deaf an_is_deaf cd_is_deaf ct_is_deaf), sl_is_deaf⟩) (c_is_deaf : PySem.W.codeIn K cd_is_deaf "is_deaf" = true) (k_is_deaf : PySem.W.keepIn K (.ref f_is_deaf) = true)
    {f_check_deaf : Addr} {oc_check_deaf : Value} {od_check_deaf an_check_deaf : Option Addr} {sl_check_deaf : Array (Option Value)} {kV_check_deaf dc_check_deaf pm_check_deaf cd_check_deaf ct_check_deaf : Value}
    (a_check_deaf : PySem.W.nsIn K mainGlobals "check_deaf" = some (some (.ref f_check_deaf))) (l_check_deaf : K.lookup f_check_deaf = some ⟨oc_check_deaf, od_check_deaf, .func (PySem.W.fnOf "check_deaf" "check_deaf" (defArgs s_check_deaf) (defBody s_check_deaf) (defScope s_check_deaf) .none kV_check_deaf dc_check_deaf pm_check_deaf an_check_deaf cd_check_deaf ct_check_deaf), sl_check_deaf⟩) (c_check_deaf : PySem.W.codeIn K cd_check_deaf "check_deaf" = true) (k_check_deaf : PySem.W.keepIn K (.ref f_check_deaf) = true)
    {f_seats_of : Addr} {oc_seats_of : Value} {od_seats_of an_seats_of : Option Addr} {sl_seats_of : Array (Option Value)} {kV_seats_of dc_seats_of pm_seats_of cd_seats_of ct_seats_of : Value}
    (a_seats_of : PySem.W.nsIn K mainGlobals "seats_of" = some (some (.ref f_seats_of))) (l_seats_of : K.lookup f_seats_of = some ⟨oc_seats_of, od_seats_of, .func (PySem.W.fnOf "seats_of" "seats_of" (defArgs s_seats_of) (defBody s_seats_of) (defScope s_seats_of) .none kV_seats_of dc_seats_of pm_seats_of an_seats_of cd_seats_of ct_seats_of), sl_seats_of⟩) (c_seats_of : PySem.W.codeIn K cd_seats_of "seats_of" = true) (k_seats_of : PySem.W.keepIn K (.ref f_seats_of) = true)
    {f_seats_after : Addr} {oc_seats_after : Value} {od_seats_after an_seats_after : Option Addr} {sl_seats_after : Array (Option Value)} {kV_seats_after dc_seats_after pm_seats_after cd_seats_after ct_seats_after : Value}
    (a_seats_after : PySem.W.nsIn K mainGlobals "seats_after" = some (some (.ref f_seats_after))) (l_seats_after : K.lookup f_seats_after = some ⟨oc_seats_after, od_seats_after, .func (PySem.W.fnOf "seats_after" "seats_after" (defArgs s_seats_after) (defBody s_seats_after) (defScope s_seats_after) .none kV_seats_after dc_seats_after pm_seats_after an_seats_after cd_seats_after ct_seats_after), sl_seats_after⟩) (c_seats_after : PySem.W.codeIn K cd_seats_after "seats_after" = true) (k_seats_after : PySem.W.keepIn K (.ref f_seats_after) = true)
    {f_run_bench : Addr} {oc_run_bench : Value} {od_run_bench an_run_bench : Option Addr} {sl_run_bench : Array (Option Value)} {kV_run_bench dc_run_bench pm_run_bench cd_run_bench ct_run_bench : Value}
    (a_run_bench : PySem.W.nsIn K mainGlobals "run_bench" = some (some (.ref f_run_bench))) (l_run_bench : K.lookup f_run_bench = some ⟨oc_run_bench, od_run_bench, .func (PySem.W.fnOf "run_bench" "run_bench" (defArgs s_run_bench) (defBody s_run_bench) (defScope s_run_bench) .none kV_run_bench dc_run_bench pm_run_bench an_run_bench cd_run_bench ct_run_bench), sl_run_bench⟩) (c_run_bench : PySem.W.codeIn K cd_run_bench "run_bench" = true) (k_run_bench : PySem.W.keepIn K (.ref f_run_bench) = true)
    {f__law_deck : Addr} {oc__law_deck : Value} {od__law_deck an__law_deck : Option Addr} {sl__law_deck : Array (Option Value)} {kV__law_deck dc__law_deck pm__law_deck cd__law_deck ct__law_deck : Value}
    (a__law_deck : PySem.W.nsIn K mainGlobals "_law_deck" = some (some (.ref f__law_deck))) (l__law_deck : K.lookup f__law_deck = some ⟨oc__law_deck, od__law_deck, .func (PySem.W.fnOf "_law_deck" "_law_deck" (defArgs s__law_deck) (defBody s__law_deck) (defScope s__law_deck) .none kV__law_deck dc__law_deck pm__law_deck an__law_deck cd__law_deck ct__law_deck), sl__law_deck⟩) (c__law_deck : PySem.W.codeIn K cd__law_deck "_law_deck" = true) (k__law_deck : PySem.W.keepIn K (.ref f__law_deck) = true)
    {f__law_draw : Addr} {oc__law_draw : Value} {od__law_draw an__law_draw : Option Addr} {sl__law_draw : Array (Option Value)} {kV__law_draw dc__law_draw pm__law_draw cd__law_draw ct__law_draw : Value}
    (a__law_draw : PySem.W.nsIn K mainGlobals "_law_draw" = some (some (.ref f__law_draw))) (l__law_draw : K.lookup f__law_draw = some ⟨oc__law_draw, od__law_draw, .func (PySem.W.fnOf "_law_draw" "_law_draw" (defArgs s__law_draw) (defBody s__law_draw) (defScope s__law_draw) .none kV__law_draw dc__law_draw pm__law_draw an__law_draw cd__law_draw ct__law_draw), sl__law_draw⟩) (c__law_draw : PySem.W.codeIn K cd__law_draw "_law_draw" = true) (k__law_draw : PySem.W.keepIn K (.ref f__law_draw) = true)
    {f__law_setup : Addr} {oc__law_setup : Value} {od__law_setup an__law_setup : Option Addr} {sl__law_setup : Array (Option Value)} {kV__law_setup dc__law_setup pm__law_setup cd__law_setup ct__law_setup : Value}
    (a__law_setup : PySem.W.nsIn K mainGlobals "_law_setup" = some (some (.ref f__law_setup))) (l__law_setup : K.lookup f__law_setup = some ⟨oc__law_setup, od__law_setup, .func (PySem.W.fnOf "_law_setup" "_law_setup" (defArgs s__law_setup) (defBody s__law_setup) (defScope s__law_setup) .none kV__law_setup dc__law_setup pm__law_setup an__law_setup cd__law_setup ct__law_setup), sl__law_setup⟩) (c__law_setup : PySem.W.codeIn K cd__law_setup "_law_setup" = true) (k__law_setup : PySem.W.keepIn K (.ref f__law_setup) = true)
    {f__law_range : Addr} {oc__law_range : Value} {od__law_range an__law_range : Option Addr} {sl__law_range : Array (Option Value)} {kV__law_range dc__law_range pm__law_range cd__law_range ct__law_range : Value}
    (a__law_range : PySem.W.nsIn K mainGlobals "_law_range" = some (some (.ref f__law_range))) (l__law_range : K.lookup f__law_range = some ⟨oc__law_range, od__law_range, .func (PySem.W.fnOf "_law_range" "_law_range" (defArgs s__law_range) (defBody s__law_range) (defScope s__law_range) .none kV__law_range dc__law_range pm__law_range an__law_range cd__law_range ct__law_range), sl__law_range⟩) (c__law_range : PySem.W.codeIn K cd__law_range "_law_range" = true) (k__law_range : PySem.W.keepIn K (.ref f__law_range) = true)
    {f__law_seats : Addr} {oc__law_seats : Value} {od__law_seats an__law_seats : Option Addr} {sl__law_seats : Array (Option Value)} {kV__law_seats dc__law_seats pm__law_seats cd__law_seats ct__law_seats : Value}
    (a__law_seats : PySem.W.nsIn K mainGlobals "_law_seats" = some (some (.ref f__law_seats))) (l__law_seats : K.lookup f__law_seats = some ⟨oc__law_seats, od__law_seats, .func (PySem.W.fnOf "_law_seats" "_law_seats" (defArgs s__law_seats) (defBody s__law_seats) (defScope s__law_seats) .none kV__law_seats dc__law_seats pm__law_seats an__law_seats cd__law_seats ct__law_seats), sl__law_seats⟩) (c__law_seats : PySem.W.codeIn K cd__law_seats "_law_seats" = true) (k__law_seats : PySem.W.keepIn K (.ref f__law_seats) = true)
    {f__law_row : Addr} {oc__law_row : Value} {od__law_row an__law_row : Option Addr} {sl__law_row : Array (Option Value)} {kV__law_row dc__law_row pm__law_row cd__law_row ct__law_row : Value}
    (a__law_row : PySem.W.nsIn K mainGlobals "_law_row" = some (some (.ref f__law_row))) (l__law_row : K.lookup f__law_row = some ⟨oc__law_row, od__law_row, .func (PySem.W.fnOf "_law_row" "_law_row" (defArgs s__law_row) (defBody s__law_row) (defScope s__law_row) .none kV__law_row dc__law_row pm__law_row an__law_row cd__law_row ct__law_row), sl__law_row⟩) (c__law_row : PySem.W.codeIn K cd__law_row "_law_row" = true) (k__law_row : PySem.W.keepIn K (.ref f__law_row) = true)
    {f__law_fits : Addr} {oc__law_fits : Value} {od__law_fits an__law_fits : Option Addr} {sl__law_fits : Array (Option Value)} {kV__law_fits dc__law_fits pm__law_fits cd__law_fits ct__law_fits : Value}
    (a__law_fits : PySem.W.nsIn K mainGlobals "_law_fits" = some (some (.ref f__law_fits))) (l__law_fits : K.lookup f__law_fits = some ⟨oc__law_fits, od__law_fits, .func (PySem.W.fnOf "_law_fits" "_law_fits" (defArgs s__law_fits) (defBody s__law_fits) (defScope s__law_fits) .none kV__law_fits dc__law_fits pm__law_fits an__law_fits cd__law_fits ct__law_fits), sl__law_fits⟩) (c__law_fits : PySem.W.codeIn K cd__law_fits "_law_fits" = true) (k__law_fits : PySem.W.keepIn K (.ref f__law_fits) = true)
    {f__law_beat : Addr} {oc__law_beat : Value} {od__law_beat an__law_beat : Option Addr} {sl__law_beat : Array (Option Value)} {kV__law_beat dc__law_beat pm__law_beat cd__law_beat ct__law_beat : Value}
    (a__law_beat : PySem.W.nsIn K mainGlobals "_law_beat" = some (some (.ref f__law_beat))) (l__law_beat : K.lookup f__law_beat = some ⟨oc__law_beat, od__law_beat, .func (PySem.W.fnOf "_law_beat" "_law_beat" (defArgs s__law_beat) (defBody s__law_beat) (defScope s__law_beat) .none kV__law_beat dc__law_beat pm__law_beat an__law_beat cd__law_beat ct__law_beat), sl__law_beat⟩) (c__law_beat : PySem.W.codeIn K cd__law_beat "_law_beat" = true) (k__law_beat : PySem.W.keepIn K (.ref f__law_beat) = true)
    {f__law_moved : Addr} {oc__law_moved : Value} {od__law_moved an__law_moved : Option Addr} {sl__law_moved : Array (Option Value)} {kV__law_moved dc__law_moved pm__law_moved cd__law_moved ct__law_moved : Value}
    (a__law_moved : PySem.W.nsIn K mainGlobals "_law_moved" = some (some (.ref f__law_moved))) (l__law_moved : K.lookup f__law_moved = some ⟨oc__law_moved, od__law_moved, .func (PySem.W.fnOf "_law_moved" "_law_moved" (defArgs s__law_moved) (defBody s__law_moved) (defScope s__law_moved) .none kV__law_moved dc__law_moved pm__law_moved an__law_moved cd__law_moved ct__law_moved), sl__law_moved⟩) (c__law_moved : PySem.W.codeIn K cd__law_moved "_law_moved" = true) (k__law_moved : PySem.W.keepIn K (.ref f__law_moved) = true)
    {f__law_right : Addr} {oc__law_right : Value} {od__law_right an__law_right : Option Addr} {sl__law_right : Array (Option Value)} {kV__law_right dc__law_right pm__law_right cd__law_right ct__law_right : Value}
    (a__law_right : PySem.W.nsIn K mainGlobals "_law_right" = some (some (.ref f__law_right))) (l__law_right : K.lookup f__law_right = some ⟨oc__law_right, od__law_right, .func (PySem.W.fnOf "_law_right" "_law_right" (defArgs s__law_right) (defBody s__law_right) (defScope s__law_right) .none kV__law_right dc__law_right pm__law_right an__law_right cd__law_right ct__law_right), sl__law_right⟩) (c__law_right : PySem.W.codeIn K cd__law_right "_law_right" = true) (k__law_right : PySem.W.keepIn K (.ref f__law_right) = true)
    {f_law : Addr} {oc_law : Value} {od_law an_law : Option Addr} {sl_law : Array (Option Value)} {kV_law dc_law pm_law cd_law ct_law : Value}
    (a_law : PySem.W.nsIn K mainGlobals "law" = some (some (.ref f_law))) (l_law : K.lookup f_law = some ⟨oc_law, od_law, .func (PySem.W.fnOf "law" "law" (defArgs s_law) (defBody s_law) (defScope s_law) .none kV_law dc_law pm_law an_law cd_law ct_law), sl_law⟩) (c_law : PySem.W.codeIn K cd_law "law" = true) (k_law : PySem.W.keepIn K (.ref f_law) = true)
    {m_DFL : Nat} {dd_DFL : Option Addr} {ss_DFL : Array (Option Value)} {u_DFL_0 : Tok} (o_DFL : K.lookup p_DFL = some ⟨.type "tuple", dd_DFL, .seq #[.int 200 u_DFL_0] m_DFL, ss_DFL⟩)
    (z_len : PySem.W.nsIn K mainGlobals "len" = some none)
    (z_isinstance : PySem.W.nsIn K mainGlobals "isinstance" = some none)
    (z_abs : PySem.W.nsIn K mainGlobals "abs" = some none)
    (z_all : PySem.W.nsIn K mainGlobals "all" = some none)
    (z_max : PySem.W.nsIn K mainGlobals "max" = some none)
    (z_min : PySem.W.nsIn K mainGlobals "min" = some none)
    (z_sorted : PySem.W.nsIn K mainGlobals "sorted" = some none)
    (z_int : PySem.W.nsIn K mainGlobals "int" = some none)
    (z_bool : PySem.W.nsIn K mainGlobals "bool" = some none)
    (z_tuple : PySem.W.nsIn K mainGlobals "tuple" = some none)
    (z_list : PySem.W.nsIn K mainGlobals "list" = some none)
    (z_range : PySem.W.nsIn K mainGlobals "range" = some none)
    (z_enumerate : PySem.W.nsIn K mainGlobals "enumerate" = some none)
    (z_zip : PySem.W.nsIn K mainGlobals "zip" = some none)
    (z_set : PySem.W.nsIn K mainGlobals "set" = some none)
    {p_NOBODY : Addr} (g_NOBODY : PySem.W.nsIn K mainGlobals "NOBODY" = some (some (.ref p_NOBODY))) {p_NOBODYs0 : Addr} {m_NOBODYs0 : Nat} {dd_NOBODYs0 : Option Addr} {ss_NOBODYs0 : Array (Option Value)} (o_NOBODYs0 : K.lookup p_NOBODYs0 = some ⟨.type "tuple", dd_NOBODYs0, .seq #[] m_NOBODYs0, ss_NOBODYs0⟩) {u_NOBODY_1 u_NOBODY_2 : Tok} {m_NOBODY : Nat} {dd_NOBODY : Option Addr} {ss_NOBODY : Array (Option Value)} (o_NOBODY : K.lookup p_NOBODY = some ⟨.type "tuple", dd_NOBODY, .seq #[.ref p_NOBODYs0, .int 0 u_NOBODY_1, .int 0 u_NOBODY_2] m_NOBODY, ss_NOBODY⟩)
    {t_MOST_SEATS : Tok} (g_MOST_SEATS : PySem.W.nsIn K mainGlobals "MOST_SEATS" = some (some (.int 4 t_MOST_SEATS)))
    {t_MOST_PORTIONS : Tok} (g_MOST_PORTIONS : PySem.W.nsIn K mainGlobals "MOST_PORTIONS" = some (some (.int 4 t_MOST_PORTIONS)))
    {t_MOST_LIFE : Tok} (g_MOST_LIFE : PySem.W.nsIn K mainGlobals "MOST_LIFE" = some (some (.int 3 t_MOST_LIFE)))
    {t_MOST_PRICE : Tok} (g_MOST_PRICE : PySem.W.nsIn K mainGlobals "MOST_PRICE" = some (some (.int 5 t_MOST_PRICE)))
    {t_MOST_RULE_ROWS : Tok} (g_MOST_RULE_ROWS : PySem.W.nsIn K mainGlobals "MOST_RULE_ROWS" = some (some (.int 6 t_MOST_RULE_ROWS)))
    {t_LONGEST_ROW : Tok} (g_LONGEST_ROW : PySem.W.nsIn K mainGlobals "LONGEST_ROW" = some (some (.int 200 t_LONGEST_ROW)))
    {p_SEAT_DEEDS : Addr} (g_SEAT_DEEDS : PySem.W.nsIn K mainGlobals "SEAT_DEEDS" = some (some (.ref p_SEAT_DEEDS))) {u_SEAT_DEEDS_0 u_SEAT_DEEDS_1 u_SEAT_DEEDS_2 : Tok} {m_SEAT_DEEDS : Nat} {dd_SEAT_DEEDS : Option Addr} {ss_SEAT_DEEDS : Array (Option Value)} (o_SEAT_DEEDS : K.lookup p_SEAT_DEEDS = some ⟨.type "tuple", dd_SEAT_DEEDS, .seq #[.str "group" u_SEAT_DEEDS_0, .str "single" u_SEAT_DEEDS_1, .str "go" u_SEAT_DEEDS_2] m_SEAT_DEEDS, ss_SEAT_DEEDS⟩)
    {t_HEARD : Tok} (g_HEARD : PySem.W.nsIn K mainGlobals "HEARD" = some (some (.int 4 t_HEARD)))
    {p_DEAF : Addr} (g_DEAF : PySem.W.nsIn K mainGlobals "DEAF" = some (some (.ref p_DEAF))) {u_DEAF_0 u_DEAF_1 : Tok} {m_DEAF : Nat} {dd_DEAF : Option Addr} {ss_DEAF : Array (Option Value)} (o_DEAF : K.lookup p_DEAF = some ⟨.type "tuple", dd_DEAF, .seq #[.int 0 u_DEAF_0, .int 9 u_DEAF_1] m_DEAF, ss_DEAF⟩)
    (pc : PySem.W.codeHdIn K cw Pw = true) (pn : K.lookup Pw = none) (pt : h.get? Pw = some { cls := .none, data := .fields #[] }) :
    ∃ (fd : FuncData) (cw Pw : Addr) (sp : Sp), h.get? Pw = some { cls := .none, data := .fields #[] } ∧ K.lookup Pw = none ∧ PySem.W.CodeHd h cw Pw ∧ (∀ (s : Shared) (u : Value), BindsTo s fd ⟨[u], []⟩ [("_law_script", u)]) ∧
        (∀ (H : Hp) (a : Addr) (ns : List Int), ns.length ≤ 63 → H Pw = some (.tbl #[]) → SqL K H a (ns.map V.int) → sp [.ref a] H (fun v _ => v = .bl true) fun _ _ _ => False) ∧
        ∀ base : Heap, K.In base → base.Ns mainGlobals mg → TabB base mg cw Pw → Grd.FnG l.prog w K mg base CX0 10 fa fd ["_law_script"] sp := by
  have e := hfa.symm.trans (PySem.W.mg_of X G a_law)
  cases e
  have D_fitting_row := defAt_mk (st := s_fitting_row) (ps := ["rule", "mood", "looks", "deeds"]) X G a_fitting_row l_fitting_row c_fitting_row k_fitting_row (fun _ _ _ _ _ _ us hl => match us, hl with | [_, _, _, _], _ => rfl)
  have D_within := defAt_mk (st := s_within) (ps := ["looks", "spans"]) X G a_within l_within c_within k_within (fun _ _ _ _ _ _ us hl => match us, hl with | [_, _], _ => rfl)
  have D_come_in := defAt_mk (st := s_come_in) (ps := ["setup", "line", "singles", "comers"]) X G a_come_in l_come_in c_come_in k_come_in (fun _ _ _ _ _ _ us hl => match us, hl with | [_, _, _, _], _ => rfl)
  have D_bench_deeds := defAt_mk (st := s_bench_deeds) (ps := ["line", "singles", "left"]) X G a_bench_deeds l_bench_deeds c_bench_deeds k_bench_deeds (fun _ _ _ _ _ _ us hl => match us, hl with | [_, _, _], _ => rfl)
  have D_fill_bench := defAt_mk (st := s_fill_bench) (ps := ["setup", "rule", "standing", "portions"]) X G a_fill_bench l_fill_bench c_fill_bench k_fill_bench (fun _ _ _ _ _ _ us hl => match us, hl with | [_, _, _, _], _ => rfl)
  have D_bench_beat := defAt_mk (st := s_bench_beat) (ps := ["setup", "rule", "standing", "comers", "portions"]) X G a_bench_beat l_bench_beat c_bench_beat k_bench_beat (fun _ _ _ _ _ _ us hl => match us, hl with | [_, _, _, _, _], _ => rfl)
  have D_is_whole := defAt_mk (st := s_is_whole) (ps := ["thing"]) X G a_is_whole l_is_whole c_is_whole k_is_whole (fun _ _ _ _ _ _ us hl => match us, hl with | [_], _ => rfl)
  have D_is_whole_in := defAt_mk (st := s_is_whole_in) (ps := ["thing", "low", "high"]) X G a_is_whole_in l_is_whole_in c_is_whole_in k_is_whole_in (fun _ _ _ _ _ _ us hl => match us, hl with | [_, _, _], _ => rfl)
  have D_is_pair := defAt_mk (st := s_is_pair) (ps := ["thing"]) X G a_is_pair l_is_pair c_is_pair k_is_pair (fun _ _ _ _ _ _ us hl => match us, hl with | [_], _ => rfl)
  have D_fault_in := defAt_mk (st := s_fault_in) (ps := ["thing", "fits", "most"]) X G a_fault_in l_fault_in c_fault_in k_fault_in (fun _ _ _ _ _ _ us hl => match us, hl with | [_, _, _], _ => rfl)
  have D_is_setup := defAt_mk (st := s_is_setup) (ps := ["thing"]) X G a_is_setup l_is_setup c_is_setup k_is_setup (fun _ _ _ _ _ _ us hl => match us, hl with | [_], _ => rfl)
  have D_is_choice := defAt_mk (st := s_is_choice) (ps := ["thing", "most"]) X G a_is_choice l_is_choice c_is_choice k_is_choice (fun _ _ _ _ _ _ us hl => match us, hl with | [_, _], _ => rfl)
  have D_check_setup := defAt_mk (st := s_check_setup) (ps := ["thing"]) X G a_check_setup l_check_setup c_check_setup k_check_setup (fun _ _ _ _ _ _ us hl => match us, hl with | [_], _ => rfl)
  have D_is_comers := defAt_mk (st := s_is_comers) (ps := ["setup", "thing"]) X G a_is_comers l_is_comers c_is_comers k_is_comers (fun _ _ _ _ _ _ us hl => match us, hl with | [_, _], _ => rfl)
  have D_is_half := defAt_mk (st := s_is_half) (ps := ["thing", "deeds"]) X G a_is_half l_is_half c_is_half k_is_half (fun _ _ _ _ _ _ us hl => match us, hl with | [_, _], _ => rfl)
  have D_is_rule_row := defAt_mk (st := s_is_rule_row) (ps := ["thing", "deeds"]) X G a_is_rule_row l_is_rule_row c_is_rule_row k_is_rule_row (fun _ _ _ _ _ _ us hl => match us, hl with | [_, _], _ => rfl)
  have D_is_span := defAt_mk (st := s_is_span) (ps := ["thing"]) X G a_is_span l_is_span c_is_span k_is_span (fun _ _ _ _ _ _ us hl => match us, hl with | [_], _ => rfl)
  have D_is_seats := defAt_mk (st := s_is_seats) (ps := ["thing"]) X G a_is_seats l_is_seats c_is_seats k_is_seats (fun _ _ _ _ _ _ us hl => match us, hl with | [_], _ => rfl)
  have D_check_seats := defAt_mk (st := s_check_seats) (ps := ["thing"]) X G a_check_seats l_check_seats c_check_seats k_check_seats (fun _ _ _ _ _ _ us hl => match us, hl with | [_], _ => rfl)
  have D_is_deaf := defAt_mk (st := s_is_deaf) (ps := ["rule"]) X G a_is_deaf l_is_deaf c_is_deaf k_is_deaf (fun _ _ _ _ _ _ us hl => match us, hl with | [_], _ => rfl)
  have D_check_deaf := defAt_mk (st := s_check_deaf) (ps := ["rule"]) X G a_check_deaf l_check_deaf c_check_deaf k_check_deaf (fun _ _ _ _ _ _ us hl => match us, hl with | [_], _ => rfl)
  have D_seats_of := defAt_mk (st := s_seats_of) (ps := ["setup", "seats", "row"]) X G a_seats_of l_seats_of c_seats_of k_seats_of (fun _ _ _ _ _ _ us hl => match us, hl with | [_, _, _], _ => rfl)
  have D_seats_after := defAt_mk (st := s_seats_after) (ps := ["setup", "seats", "row"]) X G a_seats_after l_seats_after c_seats_after k_seats_after (fun _ _ _ _ _ _ us hl => match us, hl with | [_, _, _], _ => rfl)
  have D_run_bench := defAt_mk (st := s_run_bench) (ps := ["setup", "seats", "row"]) X G a_run_bench l_run_bench c_run_bench k_run_bench (fun _ _ _ _ _ _ us hl => match us, hl with | [_, _, _], _ => rfl)
  have D__law_deck := defAt_mk (st := s__law_deck) (ps := ["_law_script", "_law_at"]) X G a__law_deck l__law_deck c__law_deck k__law_deck (fun _ _ _ _ _ _ us hl => match us, hl with | [_, _], _ => rfl)
  have D__law_draw := defAt_mk (st := s__law_draw) (ps := ["_law_deck_here", "_law_many"]) X G a__law_draw l__law_draw c__law_draw k__law_draw (fun _ _ _ _ _ _ us hl => match us, hl with | [_, _], _ => rfl)
  have D__law_setup := defAt_mk (st := s__law_setup) (ps := ["_law_deck_here", "_law_small"]) X G a__law_setup l__law_setup c__law_setup k__law_setup (fun _ _ _ _ _ _ us hl => match us, hl with | [_, _], _ => rfl)
  have D__law_range := defAt_mk (st := s__law_range) (ps := ["_law_deck_here", "_law_most"]) X G a__law_range l__law_range c__law_range k__law_range (fun _ _ _ _ _ _ us hl => match us, hl with | [_, _], _ => rfl)
  have D__law_seats := defAt_mk (st := s__law_seats) (ps := ["_law_deck_here", "_law_moods", "_law_deaf"]) X G a__law_seats l__law_seats c__law_seats k__law_seats (fun _ _ _ _ _ _ us hl => match us, hl with | [_, _, _], _ => rfl)
  have D__law_row := defAt_mk (st := s__law_row) (ps := ["_law_deck_here", "_law_shop", "_law_many"]) X G a__law_row l__law_row c__law_row k__law_row (fun _ _ _ _ _ _ us hl => match us, hl with | [_, _, _], _ => rfl)
  have D__law_fits := defAt_mk (st := s__law_fits) (ps := ["_law_run", "_law_numbers", "_law_waits"]) X G a__law_fits l__law_fits c__law_fits k__law_fits (fun _ _ _ _ _ _ us hl => match us, hl with | [_, _, _], _ => rfl)
  have D__law_beat := defAt_mk (st := s__law_beat) (ps := ["_law_shop", "_law_pews", "_law_standing", "_law_comers_here", "_law_portions"]) X G a__law_beat l__law_beat c__law_beat k__law_beat (fun _ _ _ _ _ _ us hl => match us, hl with | [_, _, _, _, _], _ => rfl)
  have D__law_moved := defAt_mk (st := s__law_moved) (ps := ["_law_pews", "_law_moods"]) X G a__law_moved l__law_moved c__law_moved k__law_moved (fun _ _ _ _ _ _ us hl => match us, hl with | [_, _], _ => rfl)
  have D__law_right := defAt_mk (st := s__law_right) (ps := ["_law_deck_here"]) X G a__law_right l__law_right c__law_right k__law_right (fun _ _ _ _ _ _ us hl => match us, hl with | [_], _ => rfl)
  have FD : FunD K "check_row" "check_row" (defArgs s_check_row) (defBody s_check_row) (defScope s_check_row) [.int 200] [] f_check_row _ := ⟨⟨_, _, _, _, _, _, _, _, _, _, rfl, l_check_row, c_check_row, .inr ⟨by simp, _, _, [.int 200 u_DFL_0], _, rfl, o_DFL, rfl, (.cons ⟨_, rfl⟩ .nil)⟩, .inl rfl⟩, k_check_row⟩
  have FB : ∃ ds, Vals [.int 200] ds ∧ Binds K _ ["setup", "thing", "most"] ds := FD.binds1 (ps := ["setup", "thing", "most"]) 2 0 (by simp) rfl fun T kV doc pm an cdv ct us its l1 l2 => match us, its, l1, l2 with | [_, _], [_], _, _ => ⟨_, rfl, rfl⟩
  have D_check_row : DefC K mg "check_row" s_check_row ["setup", "thing", "most"] [.int 200] f_check_row _ cw := ⟨⟨_, _, _, _, _, _, _, _, _, rfl, l_check_row, c_check_row⟩, PySem.W.mg_of X G a_check_row, k_check_row, FB⟩
  let T : Top K mg := {
    f_fitting_row := _, d_fitting_row := _, D_fitting_row := D_fitting_row,
    f_within := _, d_within := _, D_within := D_within,
    f_come_in := _, d_come_in := _, D_come_in := D_come_in,
    f_bench_deeds := _, d_bench_deeds := _, D_bench_deeds := D_bench_deeds,
    f_fill_bench := _, d_fill_bench := _, D_fill_bench := D_fill_bench,
    f_bench_beat := _, d_bench_beat := _, D_bench_beat := D_bench_beat,
    f_is_whole := _, d_is_whole := _, D_is_whole := D_is_whole,
    f_is_whole_in := _, d_is_whole_in := _, D_is_whole_in := D_is_whole_in,
    f_is_pair := _, d_is_pair := _, D_is_pair := D_is_pair,
    f_fault_in := _, d_fault_in := _, D_fault_in := D_fault_in,
    f_is_setup := _, d_is_setup := _, D_is_setup := D_is_setup,
    f_is_choice := _, d_is_choice := _, D_is_choice := D_is_choice,
    f_check_setup := _, d_check_setup := _, D_check_setup := D_check_setup,
    f_is_comers := _, d_is_comers := _, D_is_comers := D_is_comers,
    f_check_row := _, d_check_row := _, D_check_row := D_check_row, cw := cw,
    f_is_half := _, d_is_half := _, D_is_half := D_is_half,
    f_is_rule_row := _, d_is_rule_row := _, D_is_rule_row := D_is_rule_row,
    f_is_span := _, d_is_span := _, D_is_span := D_is_span,
    f_is_seats := _, d_is_seats := _, D_is_seats := D_is_seats,
    f_check_seats := _, d_check_seats := _, D_check_seats := D_check_seats,
    f_is_deaf := _, d_is_deaf := _, D_is_deaf := D_is_deaf,
    f_check_deaf := _, d_check_deaf := _, D_check_deaf := D_check_deaf,
    f_seats_of := _, d_seats_of := _, D_seats_of := D_seats_of,
    f_seats_after := _, d_seats_after := _, D_seats_after := D_seats_after,
    f_run_bench := _, d_run_bench := _, D_run_bench := D_run_bench,
    f__law_deck := _, d__law_deck := _, D__law_deck := D__law_deck,
    f__law_draw := _, d__law_draw := _, D__law_draw := D__law_draw,
    f__law_setup := _, d__law_setup := _, D__law_setup := D__law_setup,
    f__law_range := _, d__law_range := _, D__law_range := D__law_range,
    f__law_seats := _, d__law_seats := _, D__law_seats := D__law_seats,
    f__law_row := _, d__law_row := _, D__law_row := D__law_row,
    f__law_fits := _, d__law_fits := _, D__law_fits := D__law_fits,
    f__law_beat := _, d__law_beat := _, D__law_beat := D__law_beat,
    f__law_moved := _, d__law_moved := _, D__law_moved := D__law_moved,
    f__law_right := _, d__law_right := _, D__law_right := D__law_right,
    b_len := PySem.W.mg_none_of X G z_len,
    b_isinstance := PySem.W.mg_none_of X G z_isinstance,
    b_abs := PySem.W.mg_none_of X G z_abs,
    b_all := PySem.W.mg_none_of X G z_all,
    b_max := PySem.W.mg_none_of X G z_max,
    b_min := PySem.W.mg_none_of X G z_min,
    b_sorted := PySem.W.mg_none_of X G z_sorted,
    b_int := PySem.W.mg_none_of X G z_int,
    b_bool := PySem.W.mg_none_of X G z_bool,
    b_tuple := PySem.W.mg_none_of X G z_tuple,
    b_list := PySem.W.mg_none_of X G z_list,
    b_range := PySem.W.mg_none_of X G z_range,
    b_enumerate := PySem.W.mg_none_of X G z_enumerate,
    b_zip := PySem.W.mg_none_of X G z_zip,
    b_set := PySem.W.mg_none_of X G z_set,
    p_NOBODY := _, c_NOBODY := PySem.W.mg_of X G g_NOBODY, v_NOBODY := fun H => .tup (xs := [.ref p_NOBODYs0, .int 0, .int 0]) (.inr ⟨_, _, _, o_NOBODY, rfl, rfl, by simp [sizeLine_eq], (.cons rfl (.cons ⟨_, rfl⟩ (.cons ⟨_, rfl⟩ .nil)))⟩) (.cons (.tup (xs := []) (.inr ⟨_, _, _, o_NOBODYs0, rfl, rfl, by simp [sizeLine_eq], .nil⟩) .nil) (.cons (.int _) (.cons (.int _) .nil))),
    t_MOST_SEATS := _, c_MOST_SEATS := PySem.W.mg_of X G g_MOST_SEATS,
    t_MOST_PORTIONS := _, c_MOST_PORTIONS := PySem.W.mg_of X G g_MOST_PORTIONS,
    t_MOST_LIFE := _, c_MOST_LIFE := PySem.W.mg_of X G g_MOST_LIFE,
    t_MOST_PRICE := _, c_MOST_PRICE := PySem.W.mg_of X G g_MOST_PRICE,
    t_MOST_RULE_ROWS := _, c_MOST_RULE_ROWS := PySem.W.mg_of X G g_MOST_RULE_ROWS,
    t_LONGEST_ROW := _, c_LONGEST_ROW := PySem.W.mg_of X G g_LONGEST_ROW,
    p_SEAT_DEEDS := _, c_SEAT_DEEDS := PySem.W.mg_of X G g_SEAT_DEEDS, v_SEAT_DEEDS := fun H => .tup (xs := [.str "group", .str "single", .str "go"]) (.inr ⟨_, _, _, o_SEAT_DEEDS, rfl, rfl, by simp [sizeLine_eq], (.cons ⟨_, rfl⟩ (.cons ⟨_, rfl⟩ (.cons ⟨_, rfl⟩ .nil)))⟩) (.cons (.str _) (.cons (.str _) (.cons (.str _) .nil))),
    t_HEARD := _, c_HEARD := PySem.W.mg_of X G g_HEARD,
    p_DEAF := _, c_DEAF := PySem.W.mg_of X G g_DEAF, v_DEAF := fun H => .tup (xs := [.int 0, .int 9]) (.inr ⟨_, _, _, o_DEAF, rfl, rfl, by simp [sizeLine_eq], (.cons ⟨_, rfl⟩ (.cons ⟨_, rfl⟩ .nil))⟩) (.cons (.int _) (.cons (.int _) .nil)),
    KN_seats_of__row_seats_setup := ⟨fun s us ws _ l1 l2 => match us, ws, l1, l2 with | [], [_, _, _], _, _ => .of_eq rfl, fun _ h => kw_vals h _⟩,
    KN_seats_after__row_seats_setup := ⟨fun s us ws _ l1 l2 => match us, ws, l1, l2 with | [], [_, _, _], _, _ => .of_eq rfl, fun _ h => kw_vals h _⟩ }
  letI : Tb K := ⟨[(Pw, lamQ)]⟩
  have hT : Tb.T (K := K) = [(Pw, lamQ)] := rfl
  exact ⟨PySem.W.fnOf "law" "law" (defArgs s_law) (defBody s_law) (defScope s_law) .none kV_law dc_law pm_law an_law cd_law ct_law, cw, Pw, spA K spLawA, pt, pn, PySem.W.codeHd_of_K X pc, fun s v => .of_eq rfl, fun H a ns hl hP hS => spLaw_of hT hl hP hS, fun base _ _ TB => fng_ok (ok_law T TB hT (fun_mk (st := s_law) l_law c_law k_law))⟩
end K20
open PySem PySem.W PyProof.Rows
set_option maxRecDepth 100000 in
set_option maxHeartbeats 0 in
theorem PySem.Challenge.cw_parlourday_k20_beats_of_the_bench_holds : PySem.Challenge.rw_parlourday_k20_beats_of_the_bench.Holds := by
  w_on; o_law; k_head; (case hw => w_witness2)
  k_fill
  refine Grd.walk_ofG (l := PySem.Challenge.rw_parlourday_k20_beats_of_the_bench) (n := 63) (k := 10) (x := "_law_script") rfl (by decide) rfl ⟨rfl, by decide, by decide⟩ (fun w h Y => PySem.W.km_in_of Y) ?F
  case F =>
    intro w mg fa h Y KX G hmg
    have hT8 := PySem.W.km_tabs_of Y
    refine' K20.all_mk KX G hmg ?a_fitting_row ?l_fitting_row ?c_fitting_row ?k_fitting_row ?a_within ?l_within ?c_within ?k_within ?a_come_in ?l_come_in ?c_come_in ?k_come_in ?a_bench_deeds ?l_bench_deeds ?c_bench_deeds ?k_bench_deeds ?a_fill_bench ?l_fill_bench ?c_fill_bench ?k_fill_bench ?a_bench_beat ?l_bench_beat ?c_bench_beat ?k_bench_beat ?a_is_whole ?l_is_whole ?c_is_whole ?k_is_whole ?a_is_whole_in ?l_is_whole_in ?c_is_whole_in ?k_is_whole_in ?a_is_pair ?l_is_pair ?c_is_pair ?k_is_pair ?a_fault_in ?l_fault_in ?c_fault_in ?k_fault_in ?a_is_setup ?l_is_setup ?c_is_setup ?k_is_setup ?a_is_choice ?l_is_choice ?c_is_choice ?k_is_choice ?a_check_setup ?l_check_setup ?c_check_setup ?k_check_setup ?a_is_comers ?l_is_comers ?c_is_comers ?k_is_comers ?a_check_row ?l_check_row ?c_check_row ?k_check_row ?a_is_half ?l_is_half ?c_is_half ?k_is_half ?a_is_rule_row ?l_is_rule_row ?c_is_rule_row ?k_is_rule_row ?a_is_span ?l_is_span ?c_is_span ?k_is_span ?a_is_seats ?l_is_seats ?c_is_seats ?k_is_seats ?a_check_seats ?l_check_seats ?c_check_seats ?k_check_seats ?a_is_deaf ?l_is_deaf ?c_is_deaf ?k_is_deaf ?a_check_deaf ?l_check_deaf ?c_check_deaf ?k_check_deaf ?a_seats_of ?l_seats_of ?c_seats_of ?k_seats_of ?a_seats_after ?l_seats_after ?c_seats_after ?k_seats_after ?a_run_bench ?l_run_bench ?c_run_bench ?k_run_bench ?a__law_deck ?l__law_deck ?c__law_deck ?k__law_deck ?a__law_draw ?l__law_draw ?c__law_draw ?k__law_draw ?a__law_setup ?l__law_setup ?c__law_setup ?k__law_setup ?a__law_range ?l__law_range ?c__law_range ?k__law_range ?a__law_seats ?l__law_seats ?c__law_seats ?k__law_seats ?a__law_row ?l__law_row ?c__law_row ?k__law_row ?a__law_fits ?l__law_fits ?c__law_fits ?k__law_fits ?a__law_beat ?l__law_beat ?c__law_beat ?k__law_beat ?a__law_moved ?l__law_moved ?c__law_moved ?k__law_moved ?a__law_right ?l__law_right ?c__law_right ?k__law_right ?a_law ?l_law ?c_law ?k_law ?o_DFL ?z_len ?z_isinstance ?z_abs ?z_all ?z_max ?z_min ?z_sorted ?z_int ?z_bool ?z_tuple ?z_list ?z_range ?z_enumerate ?z_zip ?z_set ?g_NOBODY ?o_NOBODYs0 ?o_NOBODY ?g_MOST_SEATS ?g_MOST_PORTIONS ?g_MOST_LIFE ?g_MOST_PRICE ?g_MOST_RULE_ROWS ?g_LONGEST_ROW ?g_SEAT_DEEDS ?o_SEAT_DEEDS ?g_HEARD ?g_DEAF ?o_DEAF ?pc ?pn ?pt
    (case a_fitting_row => k_is); (case l_fitting_row => k_is); (case c_fitting_row => k_is); (case k_fitting_row => k_is); (case a_within => k_is); (case l_within => k_is); (case c_within => k_is); (case k_within => k_is); (case a_come_in => k_is); (case l_come_in => k_is); (case c_come_in => k_is); (case k_come_in => k_is); (case a_bench_deeds => k_is); (case l_bench_deeds => k_is); (case c_bench_deeds => k_is); (case k_bench_deeds => k_is); (case a_fill_bench => k_is); (case l_fill_bench => k_is); (case c_fill_bench => k_is); (case k_fill_bench => k_is); (case a_bench_beat => k_is); (case l_bench_beat => k_is); (case c_bench_beat => k_is); (case k_bench_beat => k_is); (case a_is_whole => k_is); (case l_is_whole => k_is); (case c_is_whole => k_is); (case k_is_whole => k_is); (case a_is_whole_in => k_is); (case l_is_whole_in => k_is); (case c_is_whole_in => k_is); (case k_is_whole_in => k_is); (case a_is_pair => k_is); (case l_is_pair => k_is); (case c_is_pair => k_is); (case k_is_pair => k_is); (case a_fault_in => k_is); (case l_fault_in => k_is); (case c_fault_in => k_is); (case k_fault_in => k_is); (case a_is_setup => k_is); (case l_is_setup => k_is); (case c_is_setup => k_is); (case k_is_setup => k_is); (case a_is_choice => k_is); (case l_is_choice => k_is); (case c_is_choice => k_is); (case k_is_choice => k_is); (case a_check_setup => k_is); (case l_check_setup => k_is); (case c_check_setup => k_is); (case k_check_setup => k_is); (case a_is_comers => k_is); (case l_is_comers => k_is); (case c_is_comers => k_is); (case k_is_comers => k_is); (case a_check_row => k_is); (case l_check_row => k_is); (case c_check_row => k_is); (case k_check_row => k_is); (case a_is_half => k_is); (case l_is_half => k_is); (case c_is_half => k_is); (case k_is_half => k_is); (case a_is_rule_row => k_is); (case l_is_rule_row => k_is); (case c_is_rule_row => k_is); (case k_is_rule_row => k_is); (case a_is_span => k_is); (case l_is_span => k_is); (case c_is_span => k_is); (case k_is_span => k_is); (case a_is_seats => k_is); (case l_is_seats => k_is); (case c_is_seats => k_is); (case k_is_seats => k_is); (case a_check_seats => k_is); (case l_check_seats => k_is); (case c_check_seats => k_is); (case k_check_seats => k_is); (case a_is_deaf => k_is); (case l_is_deaf => k_is); (case c_is_deaf => k_is); (case k_is_deaf => k_is); (case a_check_deaf => k_is); (case l_check_deaf => k_is); (case c_check_deaf => k_is); (case k_check_deaf => k_is); (case a_seats_of => k_is); (case l_seats_of => k_is); (case c_seats_of => k_is); (case k_seats_of => k_is); (case a_seats_after => k_is); (case l_seats_after => k_is); (case c_seats_after => k_is); (case k_seats_after => k_is); (case a_run_bench => k_is); (case l_run_bench => k_is); (case c_run_bench => k_is); (case k_run_bench => k_is); (case a__law_deck => k_is); (case l__law_deck => k_is); (case c__law_deck => k_is); (case k__law_deck => k_is); (case a__law_draw => k_is); (case l__law_draw => k_is); (case c__law_draw => k_is); (case k__law_draw => k_is); (case a__law_setup => k_is); (case l__law_setup => k_is); (case c__law_setup => k_is); (case k__law_setup => k_is); (case a__law_range => k_is); (case l__law_range => k_is); (case c__law_range => k_is); (case k__law_range => k_is); (case a__law_seats => k_is); (case l__law_seats => k_is); (case c__law_seats => k_is); (case k__law_seats => k_is); (case a__law_row => k_is); (case l__law_row => k_is); (case c__law_row => k_is); (case k__law_row => k_is); (case a__law_fits => k_is); (case l__law_fits => k_is); (case c__law_fits => k_is); (case k__law_fits => k_is); (case a__law_beat => k_is); (case l__law_beat => k_is); (case c__law_beat => k_is); (case k__law_beat => k_is); (case a__law_moved => k_is); (case l__law_moved => k_is); (case c__law_moved => k_is); (case k__law_moved => k_is); (case a__law_right => k_is); (case l__law_right => k_is); (case c__law_right => k_is); (case k__law_right => k_is); (case a_law => k_is); (case l_law => k_is); (case c_law => k_is); (case k_law => k_is); (case z_len => k_is); (case z_isinstance => k_is); (case z_abs => k_is); (case z_all => k_is); (case z_max => k_is); (case z_min => k_is); (case z_sorted => k_is); (case z_int => k_is); (case z_bool => k_is); (case z_tuple => k_is); (case z_list => k_is); (case z_range => k_is); (case z_enumerate => k_is); (case z_zip => k_is); (case z_set => k_is); (case g_NOBODY => k_is); (case g_MOST_SEATS => k_is); (case g_MOST_PORTIONS => k_is); (case g_MOST_LIFE => k_is); (case g_MOST_PRICE => k_is); (case g_MOST_RULE_ROWS => k_is); (case g_LONGEST_ROW => k_is); (case g_SEAT_DEEDS => k_is); (case g_HEARD => k_is); (case g_DEAF => k_is); (case o_DEAF => k_is); (case o_SEAT_DEEDS => k_is); (case o_NOBODY => k_is); (case o_NOBODYs0 => k_is); (case o_DFL => k_is); (case pt => exact hT8 _ List.mem_cons_self); (case pc => kernel_rfl); (case pn => first | kernel_rfl | rfl | decide +kernel)

