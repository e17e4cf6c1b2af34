import PyProof.Rows.All
import HandS.ForMost
import HandS.Dict
import PyProof.P3Eq
import PyProof.TupleKey
import Wide.All
import OpenK.AllK
import Wide.FinOn
import HandS.IsInst
import HandS.Style
import HandS.TupAny
import HandS.TupMul
import HandS.Conv
import HandS.Defaults
import HandS.Wide
import HandS.Codes
import HandS.Nested
import HandS.Zip
import HandS.Lambda
import HandS.EndTab
import HandS.RaiseMore
import HandS.Strs
import HandS.SetFor
import KE.GoesEnum
import HandS.Iter
import HandS.TryOnly
import HandS.Exc
import HandS.ExcField
import KE.KExcSuper
import KE.KSuper
import HandS.ExcIs
import HandS.WordsExc
import HandS.SortInts
import KE.KDictDisplayH
import HandS.Deep
import KE.SortData
import KE.KDictSum
import KE.KDictCopyH
import HandS.DictComp
import KE.KNestM
import KE.KLam
import PySem.Challenge.RW_parlourday_k05_walks_that_part_two_webs
set_option Elab.async false
set_option linter.all false
set_option maxRecDepth 100000
set_option maxHeartbeats 1000000
/-! tuples of ints, texts and such tuples, as keys of a dict -/
namespace Dkd
open PySem PySem.Spec PyProof.Rows L2
mutual
/-- an int, a text, a tuple of such -/
def keyd : PyData → Bool
  | .int _ => true
  | .str x => PyData.strOk x
  | .tuple xs => keydAll xs
  | _ => false
def keydAll : List PyData → Bool
  | [] => true
  | x :: xs => keyd x && keydAll xs
end
mutual
def hashD (w : World) : PyData → Int
  | .int i => hashInt i
  | .str x => hashStr w x
  | .tuple xs => reduceHash (Builtin.Tuple.tupleHashOf (hashAll w xs))
  | _ => 0
def hashAll (w : World) : List PyData → List Int
  | [] => []
  | x :: xs => hashD w x :: hashAll w xs
end
mutual
def drawsD : PyData → Nat
  | .tuple xs => drawsAll xs + 1
  | _ => 1
def drawsAll : List PyData → Nat
  | [] => 0
  | x :: xs => drawsD x + drawsAll xs
end
mutual
theorem eqv_key : ∀ (d e : PyData), keyd d = true → keyd e = true → (PyData.eqv d e = true ↔ d = e)
  | .int i, .int j, _, _ => by simp [PyData.eqv]
  | .str x, .str y, _, _ => by simp [PyData.eqv]
  | .tuple xs, .tuple ys, h, g => by
    have := eqv_keyAll xs ys (by simpa [keyd] using h) (by simpa [keyd] using g)
    simp [PyData.eqv, this]
  | .int i, .str y, _, _ => by simp [PyData.eqv]
  | .int i, .tuple ys, _, _ => by simp [PyData.eqv]
  | .str x, .int j, _, _ => by simp [PyData.eqv]
  | .str x, .tuple ys, _, _ => by simp [PyData.eqv]
  | .tuple xs, .int j, _, _ => by simp [PyData.eqv]
  | .tuple xs, .str y, _, _ => by simp [PyData.eqv]
theorem eqv_keyAll : ∀ (xs ys : List PyData), keydAll xs = true → keydAll ys = true → (PyData.eqvAll xs ys = true ↔ xs = ys)
  | [], [], _, _ => by simp [PyData.eqvAll]
  | [], _ :: _, _, _ => by simp [PyData.eqvAll]
  | _ :: _, [], _, _ => by simp [PyData.eqvAll]
  | x :: xs, y :: ys, h, g => by
    simp only [keydAll, Bool.and_eq_true] at h g
    have h1 := eqv_key x y h.1 g.1
    have h2 := eqv_keyAll xs ys h.2 g.2
    simp [PyData.eqvAll, h1, h2]
end
mutual
theorem key_lay : ∀ d : PyData, keyd d = true → d.canLay0 = true
  | .int _, _ => by simp [PyData.canLay0]
  | .str x, h => by
    have : PyData.strOk x = true := h
    simp [PyData.canLay0, this]
  | .tuple xs, h => by
    have := key_layAll xs (by simpa [keyd] using h)
    simp [PyData.canLay0, this]
theorem key_layAll : ∀ xs : List PyData, keydAll xs = true → PyData.canLayAll0 xs = true
  | [], _ => by simp [PyData.canLayAll0]
  | x :: xs, h => by
    simp only [keydAll, Bool.and_eq_true] at h
    simp [PyData.canLayAll0, key_lay x h.1, key_layAll xs h.2]
end
theorem hashAll_map {w : World} : ∀ xs : List PyData, hashAll w xs = xs.map (hashD w)
  | [] => by simp only [hashAll, List.map_nil]
  | x :: xs => by simp only [hashAll, List.map_cons, hashAll_map xs]
theorem drawsAll_snoc : ∀ (xs : List PyData) (d : PyData), drawsAll (xs ++ [d]) = drawsAll xs + drawsD d
  | [], d => by simp only [List.nil_append, drawsAll]; omega
  | x :: xs, d => by simp only [List.cons_append, drawsAll, drawsAll_snoc xs d]; omega
theorem keyd_mem : ∀ {xs : List PyData}, keydAll xs = true → ∀ {x}, x ∈ xs → keyd x = true
  | y :: ys, h, x, m => by
    simp only [keydAll, Bool.and_eq_true] at h
    rcases List.mem_cons.mp m with rfl | m
    · exact h.1
    · exact keyd_mem h.2 m
theorem depth_mem : ∀ {xs : List PyData} {x}, x ∈ xs → x.depth ≤ PyData.depthAll xs
  | y :: ys, x, m => by
    simp only [PyData.depthAll]
    rcases List.mem_cons.mp m with rfl | m
    · omega
    · have := depth_mem m
      omega
section
variable {prog : Program} {w : World} {A : Around} {E : Value → Shared → Prop} {s : Shared}
theorem hash_tup {a : Addr} {o : Obj} {vs : Array Value} {n : Nat} {xs : List PyData} {as : List Addr} {Q : Int → Shared → Prop} (ho : s.heap.get? a = some o) (hc : o.cls = .type "tuple") (hd : o.data = .seq vs n) (rs : ReadsAll s.heap vs.toList xs as) (hu0 : A.units < cLine)
    (each : ∀ x ∈ xs, ∀ (v : Value) (bs : List Addr), Reads s.heap v x bs → ∀ (t : Nat) (R : Int → Shared → Prop), R (hashD w x) { s with toks := t + drawsD x } → wpAny (model prog w) A.in1 (PySem.pyHash v) R E { s with toks := t })
    (h : Q (hashD w (.tuple xs)) { s with toks := s.toks + drawsD (.tuple xs) }) : wpAny (model prog w) A (PySem.pyHash (.ref a)) Q E s := by
  have hT : s.TypeIs (.ref a) "tuple" := ⟨o, ho, hc⟩
  unfold PySem.pyHash
  first | unfold pyHashByItsType | skip
  first | refine wpAny_bind (wpAny_cRoomFor_or (.inr hu0) ?_) | skip
  refine wpAny_bind (wpAny_specialOf hT F.slot_tuple_hash.lookup ?_)
  show wpAny _ _ (if (some (Value.builtin "tuple.__hash__") == some Value.none) = true then _ else _) Q E s
  rw [if_neg (by rw [beq_builtin_none]; exact Bool.false_ne_true)]
  refine wpAny_bind (wpAny_specialOf hT F.slot_tuple_hash.lookup ?_)
  show wpAny _ _ (callSpecialIfBoundUnlessNone? (.ref a) "__hash__" _ >>= _) Q E s
  refine wpAny_bind (wpAny_callSpecialIfBoundUnlessNone?_slot hT F.slot_tuple_hash (wpAny_call_entry F.slot_tuple_hash hT F.entry_tuple_hash ?_ (F.args_tuple_hash_1 _)))
  show wpAny _ _ (Builtin.Tuple.tupleItemsOf (.ref a) >>= _) _ _ s
  refine wpAny_bind (wpAny_tupleItemsOf ho hd ?_)
  refine wpAny_bind ?_
  rw [← Array.forIn_toList]
  have hh : hashAll w xs = xs.map (hashD w) := hashAll_map xs
  refine wpAny_forIn_list _
    (fun rest (b : Array Int) s' => ∃ gone left bs, xs = gone ++ left ∧ ReadsAll s.heap rest left bs ∧ b.toList = hashAll w gone ∧ s' = { s with toks := s.toks + drawsAll gone })
    _ ?_ ?_ _ _ ⟨[], xs, as, rfl, rs, rfl, rfl⟩
  · rintro v rest b s' ⟨gone, left, bs, ex, rl, hb, rfl⟩
    cases rl with
    | @cons _ _ d ds as1 bs1 r1 r2 =>
      have mem : d ∈ xs := by rw [ex]; exact List.mem_append_right _ List.mem_cons_self
      refine wpAny_bind (each d mem v as1 r1 _ _ ?_)
      have e1 : (b.push (hashD w d)).toList = hashAll w (gone ++ [d]) := by
        rw [hashAll_map] at hb ⊢
        rw [Array.toList_push, hb, List.map_append]
        rfl
      have e2 : drawsAll (gone ++ [d]) = drawsAll gone + drawsD d := drawsAll_snoc gone d
      first
        | exact wpAny_pure ⟨gone ++ [d], ds, bs1, by rw [ex, List.append_assoc]; rfl, r2, e1, by rw [e2, Nat.add_assoc]⟩
        | exact wpAny_bind (wpAny_pure (wpAny_pure ⟨gone ++ [d], ds, bs1, by rw [ex, List.append_assoc]; rfl, r2, e1, by rw [e2, Nat.add_assoc]⟩))
  · rintro b s' ⟨gone, left, bs, ex, rl, hb, rfl⟩
    cases rl
    rw [List.append_nil] at ex
    subst ex
    show wpAny _ _ (retInt (Builtin.Tuple.tupleHashOf b.toList)) _ _ _
    rw [hb]
    refine wpAny_ret_mkInt ?_
    have h' : Q (reduceHash (Builtin.Tuple.tupleHashOf (hashAll w xs))) { s with toks := s.toks + (drawsAll xs + 1) } := by
      simpa only [hashD, drawsD] using h
    obtain ⟨z, ez⟩ : ∃ z, z = Builtin.Tuple.tupleHashOf (hashAll w xs) := ⟨_, rfl⟩
    rw [← ez] at h' ⊢
    show wpAny _ _ (if (decide (-(2 : Int) ^ 63 ≤ z) && decide (z < 2 ^ 63)) = true then _ else _) Q E _
    unfold reduceHash at h'
    by_cases hr : (decide (-(2 : Int) ^ 63 ≤ z) && decide (z < 2 ^ 63)) = true
    · rw [if_pos hr]
      rw [if_pos hr] at h'
      exact wpAny_pure (by simpa [Nat.add_assoc] using h')
    · rw [if_neg hr]
      rw [if_neg hr] at h'
      exact wpAny_bind (wpAny_rule (wpAny_pure (by simpa [Nat.add_assoc] using h')))
theorem hash_ok : ∀ (n : Nat) (d : PyData) {A : Around} {E : Value → Shared → Prop} {s : Shared} {u : Value} {as : List Addr} {Q : Int → Shared → Prop}, d.depth ≤ n → keyd d = true → Reads s.heap u d as → A.units + n < cLine →
    Q (hashD w d) { s with toks := s.toks + drawsD d } → wpAny (model prog w) A (PySem.pyHash u) Q E s := by
  intro n
  induction n with
  | zero =>
    intro d A E s u as Q hn hk r hu h
    cases r with
    | int => exact wpAny_pyHash_int (by simpa only [hashD, drawsD] using h)
    | str => exact wpAny_pyHash_str (by simpa only [hashD, drawsD] using h)
    | tuple => simp [PyData.depth] at hn
    | _ => simp [keyd] at hk
  | succ n ih =>
    intro d A E s u as Q hn hk r hu h
    cases r with
    | int => exact wpAny_pyHash_int (by simpa only [hashD, drawsD] using h)
    | str => exact wpAny_pyHash_str (by simpa only [hashD, drawsD] using h)
    | @tuple a o vs m xs as ho hc hd rs =>
      refine hash_tup ho hc hd rs (by omega) (fun x mx v bs rx t R hR => ?_) h
      have hkx := keyd_mem (by simpa only [keyd] using hk) mx
      have hdx : x.depth ≤ n := by
        have := depth_mem mx
        simp only [PyData.depth] at hn
        omega
      exact ih x (s := { s with toks := t }) hdx hkx rx (by show A.units + 1 + n < cLine; omega) hR
    | _ => simp [keyd] at hk
theorem readsAll_imp {h h' : Heap} {vs : List Value} : ∀ {xs : List PyData} {as : List Addr}, ReadsAll h vs xs as → (∀ x ∈ xs, ∀ v bs, Reads h v x bs → Reads h' v x bs) → ReadsAll h' vs xs as := by
  induction vs with
  | nil => intro xs as r _; cases r; exact .nil
  | cons v vs ih =>
    intro xs as r f
    cases r with
    | cons r1 r2 => exact .cons (f _ List.mem_cons_self _ _ r1) (ih r2 fun x m => f x (List.mem_cons_of_mem _ m))
theorem reads_but {h h' : Heap} {p : Addr} {ob : Obj} {es ep} (ho : h.get? p = some ob) (hd : ob.data = .dict es ep) (hs : Heap.SameBut p h h') : ∀ (n : Nat) (d : PyData) (u : Value) (as : List Addr), d.depth ≤ n → keyd d = true → Reads h u d as → Reads h' u d as := by
  intro n
  induction n with
  | zero =>
    intro d u as hn hk r
    cases r with
    | int => exact .int _ _
    | str => exact .str _ _
    | tuple => simp [PyData.depth] at hn
    | _ => simp [keyd] at hk
  | succ n ih =>
    intro d u as hn hk r
    cases r with
    | int => exact .int _ _
    | str => exact .str _ _
    | @tuple a o vs m xs as go gc gd rs =>
      have ne : a ≠ p := fun z => by
        rw [z, ho] at go
        cases go
        rw [hd] at gd
        cases gd
      refine .tuple ((hs.2 a ne).trans go) gc gd (readsAll_imp rs fun x mx v bs rx => ih x v bs ?_ (keyd_mem (by simpa only [keyd] using hk) mx) rx)
      have := depth_mem mx
      simp only [PyData.depth] at hn
      omega
    | _ => simp [keyd] at hk
theorem quiet_ok {M : Model} : ∀ (n : Nat) (d : PyData) {A : Around} {E : Value → Shared → Prop} {s : Shared} {u : Value} {as : List Addr} {Q : Bool → Shared → Prop}, d.depth ≤ n → keyd d = true → Reads s.heap u d as → Q true s → wpAny M A (eqIsQuiet n u) Q E s := by
  intro n
  induction n with
  | zero =>
    intro d A E s u as Q hn hk r h
    cases r with
    | int => exact wpAny_pure h
    | str => exact wpAny_pure h
    | tuple => simp [PyData.depth] at hn
    | _ => simp [keyd] at hk
  | succ n ih =>
    intro d A E s u as Q hn hk r h
    cases r with
    | int => exact wpAny_pure h
    | str => exact wpAny_pure h
    | @tuple a o vs m xs as ho hc hd rs =>
      have hT : s.TypeIs (.ref a) "tuple" := ⟨o, ho, hc⟩
      unfold eqIsQuiet
      refine wpAny_bind (wpAny_specialOf hT F.slot_tuple_eq.lookup ?_)
      show wpAny _ _ (isInstance (.ref a) (.type "tuple") >>= _) _ _ s
      refine wpAny_bind (wpAny_isInstance hT isSubtype_tuple_tuple ?_)
      simp only [Bool.not_true, Bool.false_eq_true, if_false]
      refine wpAny_bind (wpAny_seqItems ho hd ?_)
      refine wpAny_bind ?_
      show wpAny _ _ (forIn vs _ _) _ _ s
      rw [← Array.forIn_toList]
      refine wpAny_forIn_list _ (fun rest r s' => r.1 = none ∧ s' = s ∧ ∃ left bs, (∀ x ∈ left, x ∈ xs) ∧ ReadsAll s.heap rest left bs) _ ?_ ?_ _ _ ⟨rfl, rfl, xs, as, fun _ m => m, rs⟩
      · rintro v rest r s' ⟨hr, rfl, left, bs, sub, rl⟩
        cases rl with
        | @cons _ _ x ds as1 bs1 r1 r2 =>
          have mx := sub x List.mem_cons_self
          refine wpAny_bind (ih x (by have := depth_mem mx; simp only [PyData.depth] at hn; omega) (keyd_mem (by simpa only [keyd] using hk) mx) r1 ?_)
          simp only [Bool.not_true, Bool.false_eq_true, if_false]
          exact wpAny_pure ⟨rfl, rfl, ds, bs1, fun y m => sub y (List.mem_cons_of_mem _ m), r2⟩
      · rintro ⟨r1, r2⟩ s' ⟨hr, rfl, _⟩
        simp only at hr
        subst hr
        exact wpAny_pure h
    | _ => simp [keyd] at hk
end
/-- the keys: tuples, nested up to eight deep -/
def IsD (h : Heap) (d : PyData) (a : Addr) : Prop := keyd d = true ∧ d.depth ≤ 8 ∧ ∃ as, Reads h (.ref a) d as
noncomputable scoped instance : DecidableEq PyData := fun a b => Classical.propDecidable (a = b)
noncomputable def dataKind {prog : Program} {w : World} : HeapKind prog w PyData where
  is := IsD
  hash := hashD w
  draws := drawsD
  room := fun A => A.units + 8 < cLine
  inj := fun ⟨k1, _, _, r1⟩ ⟨_, _, _, r2⟩ => (Reads.unique r1 _ _ r2).1
  keeps := fun ⟨k, n, as, r⟩ ho hd hs => ⟨k, n, as, reads_but ho hd hs 8 _ _ _ n k r⟩
  pyHash := fun hu ⟨k, n, as, r⟩ h => hash_ok 8 _ n k r hu h
  eqBool := fun {A E s x y a b Q} hu ⟨k1, n1, as, r1⟩ ⟨k2, n2, bs, r2⟩ h => by
    have e := SeqAt.eqAt_reads x y A s _ _ as bs r1 r2 (key_lay _ k1) (key_lay _ k2) (by have := Nat.min_le_left x.depth y.depth; omega)
    have e2 : PyData.eqv x y = decide (x = y) := by
      by_cases z : x = y
      · rw [decide_eq_true z]
        exact (eqv_key x y k1 k2).mpr z
      · rw [decide_eq_false z]
        exact Bool.eq_false_iff.mpr fun q => z ((eqv_key x y k1 k2).mp q)
    rw [e2] at e
    exact e prog w E Q h
  quiet := fun ⟨k, n, as, r⟩ h => quiet_ok 8 _ n k r h
/-! ### a dict whose keys are such tuples, as a thing of the abstract heap -/
abbrev Ent := List (PyData × Addr × V)
noncomputable def entD (w : World) (x : PyData × Addr × Value) : DictEntry := entryOfKey (dataKind (prog := default) (w := w)) x
theorem entD_is {P : Program} {w : World} : entryOfKey (dataKind (prog := P) (w := w)) = entD w := rfl
abbrev EntR : Ent → List (PyData × Addr × Value) → Prop := Paired fun p q => p.1 = q.1 ∧ p.2.1 = q.2.1 ∧ RelV p.2.2 q.2.2
def ddP (w : World) (a : Addr) (ep : Nat) (vs : Ent) (h : Heap) : Prop := vs.length ≤ sizeLine ∧ (a == sysModules) = false ∧ ∃ xs, EntR vs xs ∧ ∃ o es, h.get? a = some o ∧ o.ExactDict ∧ o.data = .dict es ep ∧ es.toList = xs.map (entD w) ∧ (xs.map (·.1)).Nodup
noncomputable def ddO (w : World) (a : Addr) (ep : Nat) (vs : Ent) : HO := .ext (ddP w a ep vs)
noncomputable def valE (vs : Ent) (k : PyData) : Option V := (vs.find? fun p => decide (p.1 = k)).map (·.2.2)
noncomputable def putE (vs : Ent) (k : PyData) (b : Addr) (v : V) : Ent := if (valE vs k).isSome then vs.map (fun p => if p.1 = k then (p.1, p.2.1, v) else p) else vs ++ [(k, b, v)]
theorem EntR.val {vs : Ent} {xs : List (PyData × Addr × Value)} (r : EntR vs xs) (k : PyData) : RelO (valE vs k) ((atKey xs k).map (·.2)) := by
  induction r with
  | nil => exact True.intro
  | @cons p q ps qs h t ih =>
    obtain ⟨h1, _, h2⟩ := h
    by_cases e : p.1 = k
    · have e' : q.1 = k := h1.symm.trans e
      have a1 : valE (p :: ps) k = some p.2.2 := by simp [valE, List.find?_cons, e]
      have a2 : atKey (q :: qs) k = some q.2 := by simp [atKey, List.find?_cons, e']
      rw [a1, a2]
      exact h2
    · have e' : ¬ q.1 = k := fun z => e (h1.trans z)
      have a1 : valE (p :: ps) k = valE ps k := by simp [valE, List.find?_cons, e]
      have a2 : atKey (q :: qs) k = atKey qs k := by simp [atKey, List.find?_cons, e']
      rw [a1, a2]
      exact ih
theorem EntR.put {vs : Ent} {xs : List (PyData × Addr × Value)} (r : EntR vs xs) (k : PyData) (b : Addr) {v : V} {u : Value} (rv : RelV v u) : EntR (putE vs k b v) (storedH xs k b u) := by
  have e : (valE vs k).isSome = (atKey xs k).isSome := by rw [(r.val k).isSome_eq, Option.isSome_map]
  unfold putE storedH
  rw [e]
  by_cases q : (atKey xs k).isSome = true
  · rw [if_pos q, if_pos q]
    clear e q
    induction r with
    | nil => exact .nil
    | @cons p q ps qs h t ih =>
      rw [List.map_cons, List.map_cons]
      refine .cons ?_ ih
      obtain ⟨h1, h2, h3⟩ := h
      unfold putAt
      by_cases z : p.1 = k
      · rw [if_pos z, if_pos (h1.symm.trans z)]
        exact ⟨h1, h2, rv⟩
      · rw [if_neg z, if_neg (fun y => z (h1.trans y))]
        exact ⟨h1, h2, h3⟩
  · rw [if_neg q, if_neg q]
    exact Paired.snoc r ⟨rfl, rfl, rv⟩
theorem putE_len (vs : Ent) (k : PyData) (b : Addr) (v : V) : (putE vs k b v).length ≤ vs.length + 1 := by
  unfold putE
  split
  · rw [List.length_map]; omega
  · rw [List.length_append]; exact Nat.le_refl _
section
variable {X : Cx} {pins : List (Addr × Obj)} {σ : L2.St} {H : Hp} {s : Shared} {a b : Addr} {ep : Nat} {vs : Ent} {k : PyData} {v : V} {r : Value} {A : Around} {E : Value → Shared → Prop}
theorem dd_ext {P : Program} {w w' : World} {H : Hp} {h : Heap} (x : ddP w a ep vs h) : ObjOk P w' H h a (ddO w a ep vs) := by
  obtain ⟨z, hd, xs, rel, o, es, ho, r⟩ := id x
  refine ⟨x, ⟨o, ho⟩, fun h1 h2 y kp => ?_⟩
  obtain ⟨z, hd, xs, rel, o, es, ho, r⟩ := y
  exact ⟨z, hd, xs, rel, o, es, kp _ ho, r⟩
theorem dd_of {P : Program} {w : World} {h : Heap} (ok : HOk P w H h) (e : H a = some (ddO w a ep vs)) (hk : ∀ p ∈ vs, IsD h p.1 p.2.1) : vs.length ≤ sizeLine ∧ (a == sysModules) = false ∧ ∃ xs, EntR vs xs ∧ h.DictOfH (dataKind (prog := P) (w := w)) a xs := by
  have x : ObjOk P w H h a (.ext (ddP w a ep vs)) := ok a _ e
  obtain ⟨z, hd, xs, rel, o, es, ho, h2, h3, h4, h5⟩ := x.1
  refine ⟨z, hd, xs, rel, o, es, ep, ho, h2, h3, h4, fun y hy => ?_, h5⟩
  obtain ⟨i, hi⟩ := List.getElem?_of_mem hy
  obtain ⟨p, hp, e1, e2, _⟩ : ∃ p, p ∈ vs ∧ p.1 = y.1 ∧ p.2.1 = y.2.1 ∧ RelV p.2.2 y.2.2 := by
    clear hi h4 h5 z hk x e
    induction rel with
    | nil => cases hy
    | @cons p q ps qs h t ih =>
      rcases List.mem_cons.mp hy with rfl | hy
      · exact ⟨p, List.mem_cons_self, h⟩
      · obtain ⟨p', m, r⟩ := ih hy
        exact ⟨p', List.mem_cons_of_mem _ m, r⟩
  have := hk p hp
  rw [e1, e2] at this
  exact this
theorem dd_in {Q : Value → Shared → Prop} (hu : A.units + 9 < cLine) (I : Inv X pins σ H s) (e : H a = some (ddO X.w a ep vs)) (hk : ∀ p ∈ vs, IsD s.heap p.1 p.2.1) (hb : IsD s.heap k b) (h : ∀ s', Inv X pins σ H s' → Q (.bool (valE vs k).isSome) s') :
    wpAny (model X.prog X.w) A (compareOp .In (.ref b) (.ref a)) Q E s := by
  obtain ⟨z, hd, xs, rel, dd⟩ := dd_of I.hok e hk
  refine wpAny_in_heap (knd := dataKind) (by show A.in1.units + 8 < cLine; exact (show A.units + 1 + 8 < cLine by omega)) hb hd dd ?_
  have q := (rel.val k).isSome_eq
  rw [Option.isSome_map] at q
  rw [← q]
  exact h _ (I.tok _)
theorem dd_notIn {Q : Value → Shared → Prop} (hu : A.units + 9 < cLine) (I : Inv X pins σ H s) (e : H a = some (ddO X.w a ep vs)) (hk : ∀ p ∈ vs, IsD s.heap p.1 p.2.1) (hb : IsD s.heap k b) (h : ∀ s', Inv X pins σ H s' → Q (.bool (!(valE vs k).isSome)) s') :
    wpAny (model X.prog X.w) A (compareOp .NotIn (.ref b) (.ref a)) Q E s := by
  obtain ⟨z, hd, xs, rel, dd⟩ := dd_of I.hok e hk
  refine wpAny_notIn_heap (knd := dataKind) (by show A.in1.units + 8 < cLine; exact (show A.units + 1 + 8 < cLine by omega)) hb hd dd ?_
  have q := (rel.val k).isSome_eq
  rw [Option.isSome_map] at q
  rw [← q]
  exact h _ (I.tok _)
theorem dd_get {Q : Value → Shared → Prop} (hu : A.units + 9 < cLine) (I : Inv X pins σ H s) (e : H a = some (ddO X.w a ep vs)) (hk : ∀ p ∈ vs, IsD s.heap p.1 p.2.1) (hb : IsD s.heap k b) (l : valE vs k = some v) (h : ∀ w' s', Inv X pins σ H s' → RelV v w' → Q w' s') :
    wpAny (model X.prog X.w) A (getItem (.ref a) (.ref b)) Q E s := by
  obtain ⟨z, hd, xs, rel, dd⟩ := dd_of I.hok e hk
  obtain ⟨w', hw, rw'⟩ := RelO.some_of (v := v) (o := (atKey xs k).map (·.2)) (by rw [← l]; exact rel.val k)
  obtain ⟨p, hp, hp2⟩ := Option.map_eq_some_iff.mp hw
  refine wpAny_getItem_heap (knd := dataKind) (by show A.in1.units + 8 < cLine; exact (show A.units + 1 + 8 < cLine by omega)) hb dd hp ?_
  rw [hp2]
  exact h w' _ (I.tok _) rw'
theorem dd_set {Q : Unit → Shared → Prop} (hu : A.units + 9 < cLine) (I : Inv X pins σ H s) (e : H a = some (ddO X.w a ep vs)) (hk : ∀ p ∈ vs, IsD s.heap p.1 p.2.1) (hb : IsD s.heap k b) (hl : vs.length < sizeLine) (rv : RelV v r)
    (h : ∀ ep' s', Inv X pins σ (upd H a (ddO X.w a ep' (putE vs k b v))) s' → Q () s') : wpAny (model X.prog X.w) A (setItem (.ref a) (.ref b) r) Q E s := by
  obtain ⟨z, hd, xs, rel, dd⟩ := dd_of I.hok e hk
  have hz : xs.length ≤ sizeLine := by rw [← Paired.length rel]; exact z
  refine wpAny_setItem_heap (knd := dataKind) (hsz := hz) (by show A.in1.units + 8 < cLine; exact (show A.units + 1 + 8 < cLine by omega)) hb dd fun h' dd' hs => ?_
  obtain ⟨q, es, ep', hq, h2, h3, h4, _, h5⟩ := dd'
  refine h ep' _ ?_
  exact d_write I (by rw [e]; exact True.intro) hs ⟨q, hq⟩ (dd_ext ⟨by have := putE_len vs k b v; omega, hd, _, rel.put k b rv, q, es, hq, h2, h3, h4, h5⟩)
end
end Dkd

set_option Elab.async false
set_option linter.all false
set_option maxRecDepth 100000
set_option maxHeartbeats 1000000
/-! an abstract machine over data: values that never change (PyData), lists that do (by their places) -/
namespace Dat
open PySem PySem.Spec PyProof.Rows L2
mutual
inductive Dq (K : PySem.W.Frag) (H : Hp) : V → PyData → Prop
  | non : Dq K H .non .none
  | bl (b : Bool) : Dq K H (.bl b) (.bool b)
  | int (i : Int) : Dq K H (.int i) (.int i)
  | str (x : Str) : Dq K H (.str x) (.str x)
  | lst {a : Addr} {xs : List V} {ds : List PyData} (h : H a = some (.lst xs)) (g : DqAll K H xs ds) : Dq K H (.ref a) (.list ds)
  | tup {a : Addr} {xs : List V} {ds : List PyData} (h : SqT K H a xs) (g : DqAll K H xs ds) : Dq K H (.ref a) (.tuple ds)
  | dct {a : Addr} (h : H a = some (.dK [])) : Dq K H (.ref a) (.dict [])
inductive DqAll (K : PySem.W.Frag) (H : Hp) : List V → List PyData → Prop
  | nil : DqAll K H [] []
  | cons {v : V} {vs : List V} {d : PyData} {ds : List PyData} (h : Dq K H v d) (g : DqAll K H vs ds) : DqAll K H (v :: vs) (d :: ds)
end
theorem sqT_same {K : PySem.W.Frag} {H H' : Hp} {a : Addr} {xs : List V} (s : Same H H') (h : SqT K H a xs) : SqT K H' a xs := by
  rcases h with (h | ⟨o, h⟩) | h
  · exact .inl (.inl (s _ _ h))
  · exact .inl (.inr ⟨o, s _ _ h⟩)
  · exact .inr h
section
variable {K : PySem.W.Frag} {H H' : Hp}
mutual
theorem Dq.same (s : Same H H') : ∀ {v : V} {d : PyData}, Dq K H v d → Dq K H' v d
  | _, _, .non => .non
  | _, _, .bl b => .bl b
  | _, _, .int i => .int i
  | _, _, .str x => .str x
  | _, _, .lst h g => .lst (s _ _ h) (DqAll.same s g)
  | _, _, .tup h g => .tup (sqT_same s h) (DqAll.same s g)
  | _, _, .dct h => .dct (s _ _ h)
theorem DqAll.same (s : Same H H') : ∀ {vs : List V} {ds : List PyData}, DqAll K H vs ds → DqAll K H' vs ds
  | _, _, .nil => .nil
  | _, _, .cons h g => .cons (Dq.same s h) (DqAll.same s g)
end
theorem DqAll.length : ∀ {vs : List V} {ds : List PyData}, DqAll K H vs ds → vs.length = ds.length
  | _, _, .nil => rfl
  | _, _, .cons _ g => by rw [List.length_cons, List.length_cons, DqAll.length g]
theorem DqAll.get : ∀ {vs : List V} {ds : List PyData} {i : Nat} {d : PyData}, DqAll K H vs ds → ds[i]? = some d → ∃ v, vs[i]? = some v ∧ Dq K H v d
  | _, _, _, _, .nil, e => by simp at e
  | _, _, 0, _, .cons h _, e => by
    rw [List.getElem?_cons_zero] at e
    cases e
    exact ⟨_, rfl, h⟩
  | _, _, i + 1, _, .cons _ g, e => by
    rw [List.getElem?_cons_succ] at e
    obtain ⟨v, e2, h⟩ := DqAll.get g e
    exact ⟨v, by rw [List.getElem?_cons_succ]; exact e2, h⟩
theorem DqAll.getV : ∀ {vs : List V} {ds : List PyData} {i : Nat} {v : V}, DqAll K H vs ds → vs[i]? = some v → ∃ d, ds[i]? = some d ∧ Dq K H v d
  | _, _, _, _, .nil, e => by simp at e
  | _, _, 0, _, .cons h _, e => by
    rw [List.getElem?_cons_zero] at e
    cases e
    exact ⟨_, rfl, h⟩
  | _, _, i + 1, _, .cons _ g, e => by
    rw [List.getElem?_cons_succ] at e
    obtain ⟨v, e2, h⟩ := DqAll.getV g e
    exact ⟨v, by rw [List.getElem?_cons_succ]; exact e2, h⟩
theorem DqAll.app : ∀ {vs us : List V} {ds es : List PyData}, DqAll K H vs ds → DqAll K H us es → DqAll K H (vs ++ us) (ds ++ es)
  | _, _, _, _, .nil, q => q
  | _, _, _, _, .cons h g, q => .cons h (DqAll.app g q)
theorem DqAll.take : ∀ {vs : List V} {ds : List PyData} (n : Nat), DqAll K H vs ds → DqAll K H (vs.take n) (ds.take n)
  | _, _, 0, _ => by rw [List.take_zero, List.take_zero]; exact .nil
  | _, _, n + 1, .nil => by rw [List.take_nil, List.take_nil]; exact .nil
  | _, _, n + 1, .cons h g => by rw [List.take_succ_cons, List.take_succ_cons]; exact .cons h (DqAll.take n g)
theorem DqAll.drop : ∀ {vs : List V} {ds : List PyData} (n : Nat), DqAll K H vs ds → DqAll K H (vs.drop n) (ds.drop n)
  | _, _, 0, h => by rw [List.drop_zero, List.drop_zero]; exact h
  | _, _, n + 1, .nil => by rw [List.drop_nil, List.drop_nil]; exact .nil
  | _, _, n + 1, .cons h g => by rw [List.drop_succ_cons, List.drop_succ_cons]; exact DqAll.drop n g
theorem DqAll.rev : ∀ {vs : List V} {ds : List PyData}, DqAll K H vs ds → DqAll K H vs.reverse ds.reverse
  | _, _, .nil => .nil
  | _, _, .cons h g => by
    rw [List.reverse_cons, List.reverse_cons]
    exact DqAll.app (DqAll.rev g) (.cons h .nil)
theorem DqAll.ints : ∀ {ns : List Int} {vs : List V}, DqAll K H vs (ns.map PyData.int) → vs = ns.map V.int
  | [], _, h => by cases h; rfl
  | n :: r, _, h => by
    rw [List.map_cons] at h
    cases h with
    | cons h g =>
      cases h
      rw [DqAll.ints g, List.map_cons]
theorem DqAll.ofInts : ∀ {ns : List Int}, DqAll K H (ns.map V.int) (ns.map PyData.int)
  | [] => .nil
  | n :: r => .cons (.int n) DqAll.ofInts
end
/-! ### abstract values, the store of lists that change -/
inductive Av
  | dat (d : PyData)
  | ptr (p : Addr)
  | tup (as : List Av)
  | scr (ns : List Int)
  | fn (f : Addr) (os : List (Addr × HO)) (cap : List (V × PyData))
  | ty (T : String)
mutual
inductive VOk (K : PySem.W.Frag) (F : Hp) : Av → V → Prop
  | dat {d : PyData} {v : V} (h : Dq K F v d) : VOk K F (.dat d) v
  | ptr (p : Addr) : VOk K F (.ptr p) (.ref p)
  | tup {a : Addr} {as : List Av} {xs : List V} (h : F a = some (.tup xs)) (g : VAll K F as xs) : VOk K F (.tup as) (.ref a)
  | scr {a : Addr} {ns : List Int} (h : SqL K F a (ns.map V.int)) : VOk K F (.scr ns) (.ref a)
  | fn {f : Addr} {os : List (Addr × HO)} {cap : List (V × PyData)} (h : ∀ p ∈ os, F p.1 = some p.2) (g : ∀ c ∈ cap, Dq K F c.1 c.2) : VOk K F (.fn f os cap) (.ref f)
  | ty (T : String) : VOk K F (.ty T) (.ty T)
inductive VAll (K : PySem.W.Frag) (F : Hp) : List Av → List V → Prop
  | nil : VAll K F [] []
  | cons {a : Av} {as : List Av} {v : V} {vs : List V} (h : VOk K F a v) (g : VAll K F as vs) : VAll K F (a :: as) (v :: vs)
end
/-- what stands where something may change besides lists: an instance, a dict of ints and texts -/
inductive Ob
  | ins (C dx : Addr) (fs : List (Str × Av))
  | dk (kvs : List (Key × Av))
  | dd (w : World) (a : Addr) (kvs : List (PyData × Av))
/-- the lists that may change, the instances and dicts that may -/
structure AH where
  l : Addr → Option (List Av)
  o : Addr → Option Ob
instance : CoeFun AH (fun _ => Addr → Option (List Av)) := ⟨AH.l⟩
theorem AH.ext {Ω Ω' : AH} (h1 : ∀ a, Ω.l a = Ω'.l a) (h2 : Ω.o = Ω'.o) : Ω = Ω' := by
  cases Ω
  cases Ω'
  cases h2
  congr
  exact funext h1
def AH0 : AH := ⟨fun _ => none, fun _ => none⟩
def put (Ω : AH) (p : Addr) (as : List Av) : AH := ⟨fun a => if a = p then some as else Ω a, Ω.o⟩
def del (Ω : AH) (p : Addr) : AH := ⟨fun a => if a = p then none else Ω a, Ω.o⟩
def puto (Ω : AH) (p : Addr) (u : Ob) : AH := ⟨Ω.l, fun a => if a = p then some u else Ω.o a⟩
theorem put_same {Ω : AH} {p : Addr} {as : List Av} : put Ω p as p = some as := if_pos rfl
theorem put_ne {Ω : AH} {p q : Addr} {as : List Av} (h : q ≠ p) : put Ω p as q = Ω q := if_neg h
theorem puto_same {Ω : AH} {p : Addr} {u : Ob} : (puto Ω p u).o p = some u := if_pos rfl
theorem puto_ne {Ω : AH} {p q : Addr} {u : Ob} (h : q ≠ p) : (puto Ω p u).o q = Ω.o q := if_neg h
theorem put_put {Ω : AH} {p : Addr} {as bs : List Av} : put (put Ω p as) p bs = put Ω p bs := by
  refine AH.ext (fun a => ?_) rfl
  unfold put
  dsimp only
  split <;> rfl
theorem puto_puto {Ω : AH} {p : Addr} {u v : Ob} : puto (puto Ω p u) p v = puto Ω p v := by
  refine AH.ext (fun a => rfl) (funext fun a => ?_)
  unfold puto
  dsimp only
  split <;> rfl
theorem puto_put {Ω : AH} {p q : Addr} {u : Ob} {as : List Av} : puto (put Ω p as) q u = put (puto Ω q u) p as := rfl
theorem del_put {Ω : AH} {p : Addr} {as : List Av} (h : Ω p = none) : del (put Ω p as) p = Ω := by
  refine AH.ext (fun a => ?_) rfl
  unfold del put
  dsimp only
  split
  · next e => rw [e, h]
  · rfl
theorem put_id {Ω : AH} {p : Addr} {as : List Av} (h : Ω p = some as) : put Ω p as = Ω := by
  refine AH.ext (fun a => ?_) rfl
  unfold put
  dsimp only
  split
  · next e => rw [e, h]
  · rfl
theorem puto_id {Ω : AH} {p : Addr} {u : Ob} (h : Ω.o p = some u) : puto Ω p u = Ω := by
  refine AH.ext (fun a => rfl) (funext fun a => ?_)
  unfold puto
  dsimp only
  split
  · next e => rw [e, h]
  · rfl
theorem ne_of_Ω {Ω : AH} {p q : Addr} {as : List Av} (h : Ω p = some as) (n : Ω q = none) : p ≠ q := fun e => by
  rw [e, n] at h
  cases h
/-- which tables of code objects are told -/
class Tb (K : PySem.W.Frag) where
  T : List (Addr × Str)
def ntb : Option HO → Option HO
  | some (.tbl _) => none
  | o => o
theorem ntb_of {o : Option HO} {x : HO} (e : ntb o = some x) : o = some x ∧ ∀ q, x ≠ .tbl q := by
  cases o with
  | none => cases e
  | some y => cases y <;> first | (cases e; done) | (cases e; exact ⟨rfl, fun q z => by cases z⟩)
theorem ntb_to {x : HO} (n : ∀ q, x ≠ .tbl q) : ntb (some x) = some x := by
  cases x <;> first | rfl | (exact absurd rfl (n _))
/-- what is seen of the heap besides what may change and the tables -/
def AH.Off (Ω : AH) (a : Addr) : Prop := Ω.l a = none ∧ Ω.o a = none
def Fz (Ω : AH) (H : Hp) : Hp := fun a => match Ω.l a, Ω.o a with
  | none, none => ntb (H a)
  | _, _ => none
theorem Fz_none {Ω : AH} {H : Hp} {a : Addr} (h : Ω.Off a) : Fz Ω H a = ntb (H a) := by
  unfold Fz
  rw [h.1, h.2]
theorem Fz_some {Ω : AH} {H : Hp} {a : Addr} {as : List Av} (h : Ω a = some as) : Fz Ω H a = none := by
  unfold Fz
  rw [h]
theorem Fz_someO {Ω : AH} {H : Hp} {a : Addr} {u : Ob} (h : Ω.o a = some u) : Fz Ω H a = none := by
  unfold Fz
  rw [h]
  cases Ω.l a <;> rfl
theorem Fz_of {Ω : AH} {H : Hp} {a : Addr} {o : HO} (e : Fz Ω H a = some o) : Ω.Off a ∧ H a = some o ∧ ∀ q, o ≠ .tbl q := by
  unfold Fz at e
  split at e
  · next h1 h2 => exact ⟨⟨h1, h2⟩, (ntb_of e).1, (ntb_of e).2⟩
  · cases e
theorem Fz_to {Ω : AH} {H : Hp} {a : Addr} {o : HO} (n : Ω.Off a) (e : H a = some o) (t : ∀ q, o ≠ .tbl q) : Fz Ω H a = some o := by
  rw [Fz_none n, e, ntb_to t]
theorem Fz_le {Ω : AH} {H : Hp} : Same (Fz Ω H) H := fun a o e => (Fz_of e).2.1
theorem Fz_ext {Ω : AH} {H H' : Hp} (s : LamX.ExtN H H') : Same (Fz Ω H) (Fz Ω H') := fun a o e => by
  obtain ⟨h1, h2, h3⟩ := Fz_of e
  exact Fz_to h1 (s a o h2 h3) h3
theorem Fz_same {Ω : AH} {H H' : Hp} (s : Same H H') : Same (Fz Ω H) (Fz Ω H') := Fz_ext (LamX.ExtN.of s)
/-- where the same places are off, all but one place is as it was, and that one is not seen -/
theorem Fz_eq {Ω Ω' : AH} {H H' : Hp} {p : Addr} (h : ∀ a, a ≠ p → (Ω'.l a = Ω.l a ∧ Ω'.o a = Ω.o a ∧ H' a = H a)) (h1 : Fz Ω' H' p = none) (h2 : Fz Ω H p = none) : Fz Ω' H' = Fz Ω H := by
  funext a
  by_cases e : a = p
  · rw [e, h1, h2]
  · obtain ⟨e1, e2, e3⟩ := h a e
    unfold Fz
    rw [e1, e2, e3]
theorem Fz_unset {Ω : AH} {H : Hp} {p : Addr} (n : H p = none) : Fz Ω H p = none := by
  unfold Fz
  split
  · rw [n]
    rfl
  · rfl
theorem Fz_new {Ω : AH} {H : Hp} {p : Addr} {o : HO} {as : List Av} (n : H p = none) : Fz (put Ω p as) (upd H p o) = Fz Ω H :=
  Fz_eq (fun a e => ⟨put_ne e, rfl, upd_ne e⟩) (Fz_some put_same) (Fz_unset n)
theorem Fz_newo {Ω : AH} {H : Hp} {p : Addr} {o : HO} {u : Ob} (n : H p = none) : Fz (puto Ω p u) (upd H p o) = Fz Ω H :=
  Fz_eq (fun a e => ⟨rfl, puto_ne e, upd_ne e⟩) (Fz_someO puto_same) (Fz_unset n)
theorem Fz_put {Ω : AH} {H : Hp} {p : Addr} {o : HO} {as bs : List Av} (n : Ω p = some bs) : Fz (put Ω p as) (upd H p o) = Fz Ω H :=
  Fz_eq (fun a e => ⟨put_ne e, rfl, upd_ne e⟩) (Fz_some put_same) (Fz_some n)
theorem Fz_puto {Ω : AH} {H : Hp} {p : Addr} {o : HO} {u v : Ob} (n : Ω.o p = some v) : Fz (puto Ω p u) (upd H p o) = Fz Ω H :=
  Fz_eq (fun a e => ⟨rfl, puto_ne e, upd_ne e⟩) (Fz_someO puto_same) (Fz_someO n)
theorem Fz_del {Ω : AH} {H : Hp} {p : Addr} : Same (Fz Ω H) (Fz (del Ω p) H) := fun a o e => by
  obtain ⟨n, h2, h3⟩ := Fz_of e
  have m : (del Ω p).l a = none := by
    unfold del
    dsimp only
    split
    · rfl
    · exact n.1
  exact Fz_to ⟨m, n.2⟩ h2 h3
/-- a list's own place is no table, no code object -/
theorem tabs_put {T : List (Addr × Str)} {H : Hp} {p : Addr} {xs ys : List V} (t : LamX.Tabs T H) (e : H p = some (.lst xs)) : LamX.Tabs T (upd H p (.lst ys)) := fun q hq => by
  obtain ⟨ps, h1, h2, h3⟩ := t q hq
  have ne : q.1 ≠ p := fun z => by
    rw [z, e] at h1
    cases h1
  refine ⟨ps, by rw [upd_ne ne]; exact h1, h2, fun pos cv hc => ?_⟩
  obtain ⟨c, e1, e2⟩ := h3 pos cv hc
  have nc : c ≠ p := fun z => by
    rw [z, e] at e2
    unfold LamX.CodeO at e2
    cases e2
  exact ⟨c, e1, by rw [upd_ne nc]; exact e2⟩
section
variable {K : PySem.W.Frag} {F F' : Hp}
mutual
theorem VOk.same (s : Same F F') : ∀ {a : Av} {v : V}, VOk K F a v → VOk K F' a v
  | _, _, .dat h => .dat (h.same s)
  | _, _, .ptr p => .ptr p
  | _, _, .tup h g => .tup (s _ _ h) (VAll.same s g)
  | _, _, .scr h => .scr (s.seq h)
  | _, _, .fn h g => .fn (fun p m => s _ _ (h p m)) (fun c m => (g c m).same s)
  | _, _, .ty T => .ty T
theorem VAll.same (s : Same F F') : ∀ {as : List Av} {vs : List V}, VAll K F as vs → VAll K F' as vs
  | _, _, .nil => .nil
  | _, _, .cons h g => .cons (VOk.same s h) (VAll.same s g)
end
theorem VAll.length : ∀ {as : List Av} {vs : List V}, VAll K F as vs → vs.length = as.length
  | _, _, .nil => rfl
  | _, _, .cons _ g => by rw [List.length_cons, List.length_cons, VAll.length g]
theorem VAll.get : ∀ {as : List Av} {vs : List V} {i : Nat} {a : Av}, VAll K F as vs → as[i]? = some a → ∃ v, vs[i]? = some v ∧ VOk K F a v
  | _, _, _, _, .nil, e => by simp at e
  | _, _, 0, _, .cons h _, e => by
    rw [List.getElem?_cons_zero] at e
    cases e
    exact ⟨_, rfl, h⟩
  | _, _, i + 1, _, .cons _ g, e => by
    rw [List.getElem?_cons_succ] at e
    obtain ⟨v, e2, h⟩ := VAll.get g e
    exact ⟨v, by rw [List.getElem?_cons_succ]; exact e2, h⟩
theorem VAll.app : ∀ {as bs : List Av} {vs us : List V}, VAll K F as vs → VAll K F bs us → VAll K F (as ++ bs) (vs ++ us)
  | _, _, _, _, .nil, q => q
  | _, _, _, _, .cons h g, q => .cons h (VAll.app g q)
theorem VAll.set : ∀ {as : List Av} {vs : List V} {a : Av} {v : V} (i : Nat), VAll K F as vs → VOk K F a v → VAll K F (as.set i a) (vs.set i v)
  | _, _, _, _, _, .nil, _ => .nil
  | _, _, _, _, 0, .cons _ g, k => .cons k g
  | _, _, _, _, i + 1, .cons h g, k => .cons h (VAll.set i g k)
theorem VAll.dats : ∀ {ds : List PyData} {vs : List V}, VAll K F (ds.map .dat) vs → DqAll K F vs ds
  | [], _, h => by cases h; exact .nil
  | d :: r, _, h => by
    rw [List.map_cons] at h
    cases h with
    | cons h g =>
      cases h with
      | dat h => exact .cons h (VAll.dats g)
theorem VAll.ofDats : ∀ {ds : List PyData} {vs : List V}, DqAll K F vs ds → VAll K F (ds.map .dat) vs
  | _, _, .nil => .nil
  | _, _, .cons h g => .cons (.dat h) (VAll.ofDats g)
end
/-- names and keys with their values -/
inductive PrAll (K : PySem.W.Frag) (F : Hp) {κ : Type} : List (κ × Av) → List (κ × V) → Prop
  | nil : PrAll K F [] []
  | cons {k : κ} {a : Av} {v : V} {as : List (κ × Av)} {vs : List (κ × V)} (h : VOk K F a v) (g : PrAll K F as vs) : PrAll K F ((k, a) :: as) ((k, v) :: vs)
/-- a dict whose keys are data: keys as they stand, values -/
abbrev DdAll (K : PySem.W.Frag) (F : Hp) : List (PyData × Av) → Dkd.Ent → Prop := Paired fun p q => p.1 = q.1 ∧ (Dkd.keyd p.1 = true ∧ p.1.depth ≤ 8) ∧ Dq K F (.ref q.2.1) p.1 ∧ VOk K F p.2 q.2.2
inductive ObOk (K : PySem.W.Frag) (F : Hp) : Ob → HO → Prop
  | ins {C dx : Addr} {fs : List (Str × Av)} {vs : List (Str × V)} (h : PrAll K F fs vs) : ObOk K F (.ins C dx fs) (.ins C dx vs)
  | dk {kvs : List (Key × Av)} {vs : List (Key × V)} (h : PrAll K F kvs vs) : ObOk K F (.dk kvs) (.dK vs)
  | dd {w : World} {a : Addr} {ep : Nat} {kvs : List (PyData × Av)} {vs : Dkd.Ent} (h : DdAll K F kvs vs) : ObOk K F (.dd w a kvs) (.ext (Dkd.ddP w a ep vs))
theorem PrAll.same {K : PySem.W.Frag} {F F' : Hp} (s : Same F F') {κ : Type} : ∀ {as : List (κ × Av)} {vs : List (κ × V)}, PrAll K F as vs → PrAll K F' as vs
  | _, _, .nil => .nil
  | _, _, .cons h g => .cons (h.same s) (PrAll.same s g)
theorem ObOk.same {K : PySem.W.Frag} {F F' : Hp} (s : Same F F') {u : Ob} {x : HO} : ObOk K F u x → ObOk K F' u x
  | .ins h => .ins (h.same s)
  | .dk h => .dk (h.same s)
  | .dd h => .dd (Paired.mapP h fun _ _ z => ⟨z.1, z.2.1, z.2.2.1.same s, z.2.2.2.same s⟩)
theorem ObOk.nlst {K : PySem.W.Frag} {F : Hp} {u : Ob} {xs : List V} (h : ObOk K F u (.lst xs)) : False := by cases h
theorem ObOk.ntbl {K : PySem.W.Frag} {F : Hp} {u : Ob} {x : HO} (h : ObOk K F u x) : ∀ q, x ≠ .tbl q := by
  intro q z
  subst z
  cases h
inductive Slots (K : PySem.W.Frag) (F : Hp) : List (Option Av) → List (Option V) → Prop
  | nil : Slots K F [] []
  | no {x : Option V} {Γ : List (Option Av)} {σ : List (Option V)} (g : Slots K F Γ σ) : Slots K F (none :: Γ) (x :: σ)
  | yes {a : Av} {v : V} {Γ : List (Option Av)} {σ : List (Option V)} (h : VOk K F a v) (g : Slots K F Γ σ) : Slots K F (some a :: Γ) (some v :: σ)
section
variable {K : PySem.W.Frag} {F F' : Hp}
theorem Slots.same (s : Same F F') : ∀ {Γ : List (Option Av)} {σ : List (Option V)}, Slots K F Γ σ → Slots K F' Γ σ
  | _, _, .nil => .nil
  | _, _, .no g => .no (Slots.same s g)
  | _, _, .yes h g => .yes (h.same s) (Slots.same s g)
theorem Slots.get : ∀ {Γ : List (Option Av)} {σ : List (Option V)} {i : Nat} {a : Av}, Slots K F Γ σ → Γ[i]? = some (some a) → ∃ v, σ[i]? = some (some v) ∧ VOk K F a v
  | _, _, _, _, .nil, e => by simp at e
  | _, _, 0, _, .no _, e => by simp at e
  | _, _, 0, _, .yes h _, e => by
    rw [List.getElem?_cons_zero] at e
    cases e
    exact ⟨_, rfl, h⟩
  | _, _, i + 1, _, .no g, e => by
    rw [List.getElem?_cons_succ] at e
    obtain ⟨v, e2, h⟩ := Slots.get g e
    exact ⟨v, by rw [List.getElem?_cons_succ]; exact e2, h⟩
  | _, _, i + 1, _, .yes _ g, e => by
    rw [List.getElem?_cons_succ] at e
    obtain ⟨v, e2, h⟩ := Slots.get g e
    exact ⟨v, by rw [List.getElem?_cons_succ]; exact e2, h⟩
theorem Slots.set : ∀ {Γ : List (Option Av)} {σ : List (Option V)} {a : Av} {v : V} (i : Nat), Slots K F Γ σ → VOk K F a v → Slots K F (Γ.set i (some a)) (σ.set i (some v))
  | _, _, _, _, _, .nil, _ => .nil
  | _, _, _, _, 0, .no g, k => .yes k g
  | _, _, _, _, 0, .yes _ g, k => .yes k g
  | _, _, _, _, i + 1, .no g, k => .no (Slots.set i g k)
  | _, _, _, _, i + 1, .yes h g, k => .yes h (Slots.set i g k)
theorem Slots.clear : ∀ {Γ : List (Option Av)} {σ : List (Option V)} (i : Nat), Slots K F Γ σ → Slots K F (Γ.set i none) (σ.set i none)
  | _, _, _, .nil => .nil
  | _, _, 0, .no g => .no g
  | _, _, 0, .yes _ g => .no g
  | _, _, i + 1, .no g => .no (Slots.clear i g)
  | _, _, i + 1, .yes h g => .yes h (Slots.clear i g)
theorem Slots.start {N : List Str} : ∀ {as : List Av} {vs : List V}, VAll K F as vs → ∀ n, Slots K F (as.map some ++ List.replicate n none) (vs.map some ++ List.replicate n none)
  | _, _, .nil, 0 => .nil
  | _, _, .nil, n + 1 => .no (Slots.start (N := N) .nil n)
  | _, _, .cons h g, n => .yes h (Slots.start (N := N) g n)
end
def wipeA (Γ : List (Option Av)) : List Nat → List (Option Av)
  | [] => Γ
  | v :: vs => (wipeA Γ vs).set v none
theorem Slots.wipe {K : PySem.W.Frag} {F : Hp} {Γ : List (Option Av)} {σ : List (Option V)} (h : Slots K F Γ σ) : ∀ vs : List Nat, Slots K F (wipeA Γ vs) (L2.wipe σ vs)
  | [] => h
  | v :: vs => Slots.clear v (Slots.wipe h vs)
structure Ok (K : PySem.W.Frag) [Tb K] (F : Hp) (Ω : AH) (Γ : List (Option Av)) (σ : L2.St) (H : Hp) : Prop where
  fr : Same F (Fz Ω H)
  st : ∀ p as, Ω p = some as → ∃ xs, H p = some (.lst xs) ∧ VAll K (Fz Ω H) as xs
  sl : Slots K (Fz Ω H) Γ σ
  tb : LamX.Tabs (Tb.T (K := K)) H
  ob : ∀ p u, Ω.o p = some u → ∃ x, H p = some x ∧ ObOk K (Fz Ω H) u x
section
variable {K : PySem.W.Frag} [Tb K] {F F1 : Hp} {Ω : AH} {Γ : List (Option Av)} {σ : L2.St} {H H' : Hp} {p : Addr} {as : List Av} {xs : List V} {a : Av} {v : V} {i : Nat}
theorem Ok.same (k : Ok K F Ω Γ σ H) (s : Same H H') : Ok K F Ω Γ σ H' := by
  have s' := Fz_same (Ω := Ω) s
  refine ⟨k.fr.trans s', fun p as e => ?_, k.sl.same s', k.tb.ext s, fun p u e => ?_⟩
  · obtain ⟨xs, h1, h2⟩ := k.st p as e
    exact ⟨xs, s _ _ h1, h2.same s'⟩
  · obtain ⟨x, h1, h2⟩ := k.ob p u e
    exact ⟨x, s _ _ h1, h2.same s'⟩
/-- all but the tables stays, and these are still told -/
theorem Ok.ext (k : Ok K F Ω Γ σ H) (s : LamX.ExtN H H') (t : LamX.Tabs (Tb.T (K := K)) H') : Ok K F Ω Γ σ H' := by
  have s' := Fz_ext (Ω := Ω) s
  refine ⟨k.fr.trans s', fun p as e => ?_, k.sl.same s', t, fun p u e => ?_⟩
  · obtain ⟨xs, h1, h2⟩ := k.st p as e
    exact ⟨xs, s _ _ h1 (fun q z => by cases z), h2.same s'⟩
  · obtain ⟨x, h1, h2⟩ := k.ob p u e
    exact ⟨x, s _ _ h1 h2.ntbl, h2.same s'⟩
theorem Ok.re (k : Ok K F Ω Γ σ H) : Ok K (Fz Ω H) Ω Γ σ H := ⟨Same.refl _, k.st, k.sl, k.tb, k.ob⟩
theorem Ok.anchor (k : Ok K F1 Ω Γ σ H) (s : Same F F1) : Ok K F Ω Γ σ H := ⟨s.trans k.fr, k.st, k.sl, k.tb, k.ob⟩
theorem Ok.bare (k : Ok K F Ω Γ σ H) : Ok K F Ω [] [] H := ⟨k.fr, k.st, .nil, k.tb, k.ob⟩
theorem Ok.back {Ω' : AH} (k : Ok K F Ω Γ σ H) (j : Ok K (Fz Ω H) Ω' [] [] H') : Ok K F Ω' Γ σ H' := ⟨k.fr.trans j.fr, j.st, k.sl.same j.fr, j.tb, j.ob⟩
theorem Ok.val (k : Ok K F Ω Γ σ H) (e : Γ[i]? = some (some a)) : ∃ v, σ[i]? = some (some v) ∧ VOk K (Fz Ω H) a v := k.sl.get e
theorem Ok.set (k : Ok K F Ω Γ σ H) (h : VOk K (Fz Ω H) a v) (i : Nat) : Ok K F Ω (Γ.set i (some a)) (σ.set i (some v)) H := ⟨k.fr, k.st, k.sl.set i h, k.tb, k.ob⟩
theorem Ok.wipe (k : Ok K F Ω Γ σ H) (vs : List Nat) : Ok K F Ω (wipeA Γ vs) (L2.wipe σ vs) H := ⟨k.fr, k.st, k.sl.wipe vs, k.tb, k.ob⟩
theorem Ok.free (k : Ok K F Ω Γ σ H) (n : H p = none) : Ω p = none := by
  cases e : Ω p with
  | none => rfl
  | some as =>
    obtain ⟨xs, h1, _⟩ := k.st p as e
    rw [n] at h1
    cases h1
theorem Ok.off (k : Ok K F Ω Γ σ H) (n : H p = none) : Ω.Off p := ⟨k.free n, by
  cases e : Ω.o p with
  | none => rfl
  | some u =>
    obtain ⟨x, h1, _⟩ := k.ob p u e
    rw [n] at h1
    cases h1⟩
theorem Ok.noO (k : Ok K F Ω Γ σ H) (n : Ω p = some as) : Ω.o p = none := by
  cases e : Ω.o p with
  | none => rfl
  | some u =>
    obtain ⟨x, h1, h2⟩ := k.ob p u e
    obtain ⟨xs, h3, _⟩ := k.st p _ n
    rw [h1] at h3
    cases h3
    exact h2.nlst.elim
theorem Ok.noL {u : Ob} (k : Ok K F Ω Γ σ H) (n : Ω.o p = some u) : Ω p = none := by
  cases e : Ω p with
  | none => rfl
  | some as =>
    rw [k.noO e] at n
    cases n
theorem Ok.new (k : Ok K F Ω Γ σ H) (n : H p = none) (h : VAll K (Fz Ω H) as xs) : Ok K F (put Ω p as) Γ σ (upd H p (.lst xs)) := by
  have e := Fz_new (Ω := Ω) (o := .lst xs) (as := as) n
  refine ⟨by rw [e]; exact k.fr, fun q bs hq => ?_, by rw [e]; exact k.sl, k.tb.ext fun b o z => by rw [upd_ne (ne_of_none z n)]; exact z, fun q u hq => ?_⟩
  · rw [e]
    by_cases z : q = p
    · subst z
      rw [put_same] at hq
      cases hq
      exact ⟨xs, upd_same, h⟩
    · rw [put_ne z] at hq
      rw [upd_ne z]
      exact k.st q bs hq
  · rw [e]
    obtain ⟨x, h1, h2⟩ := k.ob q u hq
    rw [upd_ne (ne_of_none h1 n)]
    exact ⟨x, h1, h2⟩
theorem Ok.newo {u : Ob} {o : HO} (k : Ok K F Ω Γ σ H) (n : H p = none) (h : ObOk K (Fz Ω H) u o) : Ok K F (puto Ω p u) Γ σ (upd H p o) := by
  have e := Fz_newo (Ω := Ω) (o := o) (u := u) n
  refine ⟨by rw [e]; exact k.fr, fun q bs hq => ?_, by rw [e]; exact k.sl, k.tb.ext fun b o z => by rw [upd_ne (ne_of_none z n)]; exact z, fun q v hq => ?_⟩
  · rw [e]
    obtain ⟨xs, h1, h2⟩ := k.st q bs hq
    rw [upd_ne (ne_of_none h1 n)]
    exact ⟨xs, h1, h2⟩
  · rw [e]
    by_cases z : q = p
    · subst z
      rw [puto_same] at hq
      cases hq
      exact ⟨o, upd_same, h⟩
    · rw [puto_ne z] at hq
      rw [upd_ne z]
      exact k.ob q v hq
theorem Ok.put {bs : List Av} (k : Ok K F Ω Γ σ H) (n : Ω p = some bs) (h : VAll K (Fz Ω H) as xs) : Ok K F (Dat.put Ω p as) Γ σ (upd H p (.lst xs)) := by
  have e := Fz_put (Ω := Ω) (H := H) (o := .lst xs) (as := as) n
  obtain ⟨zs, hz, _⟩ := k.st p bs n
  refine ⟨by rw [e]; exact k.fr, fun q bs hq => ?_, by rw [e]; exact k.sl, tabs_put k.tb hz, fun q u hq => ?_⟩
  · rw [e]
    by_cases z : q = p
    · subst z
      rw [put_same] at hq
      cases hq
      exact ⟨xs, upd_same, h⟩
    · rw [put_ne z] at hq
      rw [upd_ne z]
      exact k.st q bs hq
  · rw [e]
    obtain ⟨x, h1, h2⟩ := k.ob q u hq
    have z : q ≠ p := fun z => by
      have hq' : Ω.o q = some u := hq
      rw [z, k.noO n] at hq'
      cases hq'
    rw [upd_ne z]
    exact ⟨x, h1, h2⟩
theorem tabs_puto {T : List (Addr × Str)} {H : Hp} {p : Addr} {x y : HO} (t : LamX.Tabs T H) (e : H p = some x) (h1 : ∀ q, x ≠ .tbl q) (h2 : ∀ c q, x ≠ LamX.CodeO c q) : LamX.Tabs T (upd H p y) := fun q hq => by
  obtain ⟨ps, g1, g2, g3⟩ := t q hq
  have ne : q.1 ≠ p := fun z => by
    rw [z, e] at g1
    cases g1
    exact h1 _ rfl
  refine ⟨ps, by rw [upd_ne ne]; exact g1, g2, fun pos cv hc => ?_⟩
  obtain ⟨c, e1, e2⟩ := g3 pos cv hc
  have nc : c ≠ p := fun z => by
    rw [z, e] at e2
    cases e2
    exact h2 _ _ rfl
  exact ⟨c, e1, by rw [upd_ne nc]; exact e2⟩
theorem ddP_ncode {w : World} {a : Addr} {ep : Nat} {vs : Dkd.Ent} {c : Addr} {q : Str} : HO.ext (Dkd.ddP w a ep vs) ≠ LamX.CodeO c q := by
  intro z
  unfold LamX.CodeO at z
  injection z with z
  obtain ⟨h0, e0⟩ : ∃ h0 : Heap, h0 = ⟨Array.replicate c ⟨.none, none, .freed, #[]⟩, {}⟩ := ⟨_, rfl⟩
  have sz : h0.objs.size = c := by rw [e0]; exact Array.size_replicate ..
  obtain ⟨oc, eo⟩ : ∃ oc : Obj, oc = { cls := .none, data := .fields #[.none, .str q default] } := ⟨_, rfl⟩
  have hc : (h0.push oc).get? c = some oc := by
    have := Heap.get?_push_size h0 (o := oc) (by rw [eo]; rfl)
    rwa [sz] at this
  have t : Dkd.ddP w a ep vs (h0.push oc) := by
    rw [z]
    exact ⟨oc, #[.none, .str q default], default, hc, by rw [eo], rfl⟩
  obtain ⟨_, _, xs, _, o, es, ho, _, hd, _⟩ := t
  rcases Heap.get?_push_cases ho with ⟨_, e⟩ | e
  · rw [e, eo] at hd
    cases hd
  · obtain ⟨e1, e2⟩ := Heap.get?_some_iff.mp e
    rw [e0] at e1
    have e3 : (Array.replicate c (⟨.none, none, .freed, #[]⟩ : Obj))[a]? = some o := e1
    rw [Array.getElem?_replicate] at e3
    split at e3
    · cases e3
      exact absurd e2 (by simp [Obj.isFreed])
    · cases e3
theorem ObOk.ncode {K : PySem.W.Frag} {F : Hp} {u : Ob} {x : HO} (h : ObOk K F u x) : ∀ c q, x ≠ LamX.CodeO c q := by
  intro c q z
  cases h with
  | ins => cases z
  | dk => cases z
  | dd => exact ddP_ncode z
theorem Ok.puto {u v : Ob} {o : HO} (k : Ok K F Ω Γ σ H) (n : Ω.o p = some v) (h : ObOk K (Fz Ω H) u o) : Ok K F (Dat.puto Ω p u) Γ σ (upd H p o) := by
  have e := Fz_puto (Ω := Ω) (H := H) (o := o) (u := u) n
  obtain ⟨x, hx, gx⟩ := k.ob p v n
  refine ⟨by rw [e]; exact k.fr, fun q bs hq => ?_, by rw [e]; exact k.sl, tabs_puto k.tb hx gx.ntbl gx.ncode, fun q w hq => ?_⟩
  · rw [e]
    obtain ⟨xs, h1, h2⟩ := k.st q bs hq
    have z : q ≠ p := fun z => by
      subst z
      rw [k.noO hq] at n
      cases n
    rw [upd_ne z]
    exact ⟨xs, h1, h2⟩
  · rw [e]
    by_cases z : q = p
    · subst z
      rw [puto_same] at hq
      cases hq
      exact ⟨o, upd_same, h⟩
    · rw [puto_ne z] at hq
      rw [upd_ne z]
      exact k.ob q w hq
theorem same_new {o : HO} (n : H p = none) : Same H (upd H p o) := fun b x e => by
  rw [upd_ne (ne_of_none e n)]
  exact e
theorem Fz_at {Ω : AH} {p : Addr} {H : Hp} {o : HO} (n : Ω.Off p) (t : ntb (some o) = some o := by rfl) : Fz Ω (upd H p o) p = some o := by
  rw [Fz_none n, upd_same, t]
theorem Ok.frz {ds : List PyData} (k : Ok K F Ω Γ σ H) (e : Ω p = some (ds.map .dat)) : Ok K F (del Ω p) Γ σ H ∧ Dq K (Fz (del Ω p) H) (.ref p) (.list ds) := by
  have s : Same (Fz Ω H) (Fz (del Ω p) H) := Fz_del
  obtain ⟨xs, h1, h2⟩ := k.st p _ e
  refine ⟨⟨k.fr.trans s, fun q bs hq => ?_, k.sl.same s, k.tb, fun q u hq => ?_⟩, .lst ?_ (h2.same s).dats⟩
  · have hq' : Ω q = some bs := by
      unfold del at hq
      dsimp only at hq
      split at hq
      · cases hq
      · exact hq
    obtain ⟨ys, g1, g2⟩ := k.st q bs hq'
    exact ⟨ys, g1, g2.same s⟩
  · obtain ⟨x, g1, g2⟩ := k.ob q u hq
    exact ⟨x, g1, g2.same s⟩
  · exact Fz_to ⟨if_pos rfl, k.noO e⟩ h1 fun q z => by cases z
end
/-! ### what is wanted behind an expression, a test, arguments -/
def EW (K : PySem.W.Frag) [Tb K] (te : TE) (Γ : List (Option Av)) (Ω : AH) (P : Av → AH → Prop) : Prop :=
  ∀ (F : Hp) (σ : L2.St) (H : Hp) (Q : VK), Ok K F Ω Γ σ H → (∀ a v Ω' H', P a Ω' → Ok K F Ω' Γ σ H' → VOk K (Fz Ω' H') a v → Q v H') → te σ H Q
def TW (K : PySem.W.Frag) [Tb K] (tt : TT) (Γ : List (Option Av)) (Ω : AH) (P : Bool → AH → Prop) : Prop :=
  ∀ (F : Hp) (σ : L2.St) (H : Hp) (Q : Bool → Hp → Prop), Ok K F Ω Γ σ H → (∀ b Ω' H', P b Ω' → Ok K F Ω' Γ σ H' → Q b H') → tt σ H Q
def AW (K : PySem.W.Frag) [Tb K] (ta : TA) (Γ : List (Option Av)) (Ω : AH) (P : List Av → AH → Prop) : Prop :=
  ∀ (F : Hp) (σ : L2.St) (H : Hp) (Q : List V → Hp → Prop), Ok K F Ω Γ σ H → (∀ as vs Ω' H', P as Ω' → Ok K F Ω' Γ σ H' → VAll K (Fz Ω' H') as vs → Q vs H') → ta σ H Q
def OW (K : PySem.W.Frag) [Tb K] (to : TO) (Γ : List (Option Av)) (Ω : AH) (P : Option Int → AH → Prop) : Prop :=
  ∀ (F : Hp) (σ : L2.St) (H : Hp) (Q : Option Int → Hp → Prop), Ok K F Ω Γ σ H → (∀ o Ω' H', P o Ω' → Ok K F Ω' Γ σ H' → Q o H') → to σ H Q
/-- operations on values -/
def R2W (K : PySem.W.Frag) [Tb K] (r : R2) (a b : Av) (Ω : AH) (P : Av → AH → Prop) : Prop :=
  ∀ (F : Hp) (H : Hp) (x y : V) (Q : VK), Ok K F Ω [] [] H → VOk K (Fz Ω H) a x → VOk K (Fz Ω H) b y → (∀ c v Ω' H', P c Ω' → Ok K F Ω' [] [] H' → VOk K (Fz Ω' H') c v → Q v H') → r x y H Q
def R1W (K : PySem.W.Frag) [Tb K] (r : V → Hp → VK → Prop) (a : Av) (Ω : AH) (P : Av → AH → Prop) : Prop :=
  ∀ (F : Hp) (H : Hp) (x : V) (Q : VK), Ok K F Ω [] [] H → VOk K (Fz Ω H) a x → (∀ c v Ω' H', P c Ω' → Ok K F Ω' [] [] H' → VOk K (Fz Ω' H') c v → Q v H') → r x H Q
def RCW (K : PySem.W.Frag) [Tb K] (r : List V → Hp → VK → Prop) (as : List Av) (Ω : AH) (P : Av → AH → Prop) : Prop :=
  ∀ (F : Hp) (H : Hp) (xs : List V) (Q : VK), Ok K F Ω [] [] H → VAll K (Fz Ω H) as xs → (∀ c v Ω' H', P c Ω' → Ok K F Ω' [] [] H' → VOk K (Fz Ω' H') c v → Q v H') → r xs H Q
section
variable {K : PySem.W.Frag} [Tb K] {Γ : List (Option Av)} {Ω : AH} {P P' : Av → AH → Prop} {ta tb tc te : TE} {tt tu : TT} {tl : TA} {r r' : R2}
theorem EW.mono (h : EW K te Γ Ω P) (f : ∀ a Ω', P a Ω' → P' a Ω') : EW K te Γ Ω P' := fun F σ H Q k q => h F σ H Q k fun a v Ω' H' p => q a v Ω' H' (f a Ω' p)
/-- a list just made (or held alone) that is to change no more -/
theorem EW.frz (h : EW K te Γ Ω fun a Ω' => ∃ p ds, a = .ptr p ∧ Ω' p = some (ds.map .dat) ∧ P (.dat (.list ds)) (del Ω' p)) : EW K te Γ Ω P := fun F σ H Q k q =>
  h F σ H Q k fun a v Ω' H' ⟨p, ds, ea, e, hp⟩ k' hv => by
    subst ea
    cases hv
    obtain ⟨k2, d2⟩ := k'.frz e
    exact q _ _ _ _ hp k2 (.dat d2)
theorem e_var {i : Nat} {a : Av} (e : Γ[i]? = some (some a)) (h : P a Ω) : EW K (tVar i) Γ Ω P := fun F σ H Q k q => by
  obtain ⟨v, ev, hv⟩ := k.val e
  exact ⟨v, ev, q a v Ω H h k hv⟩
theorem e_int {i : Int} (h : P (.dat (.int i)) Ω) : EW K (tC (.int i)) Γ Ω P := fun F σ H Q k q => q _ _ Ω H h k (.dat (.int i))
theorem e_str {x : Str} (h : P (.dat (.str x)) Ω) : EW K (tC (.str x)) Γ Ω P := fun F σ H Q k q => q _ _ Ω H h k (.dat (.str x))
theorem e_bl {b : Bool} (h : P (.dat (.bool b)) Ω) : EW K (tC (.bl b)) Γ Ω P := fun F σ H Q k q => q _ _ Ω H h k (.dat (.bl b))
theorem e_non (h : P (.dat .none) Ω) : EW K (tC .non) Γ Ω P := fun F σ H Q k q => q _ _ Ω H h k (.dat .non)
/-- a constant of the written part -/
theorem e_K {v : V} {d : PyData} (hd : ∀ H, Dq K H v d) (h : P (.dat d) Ω) : EW K (tC v) Γ Ω P := fun F σ H Q k q => q _ _ Ω H h k (.dat (hd _))
theorem e_op (h : EW K ta Γ Ω fun a Ω1 => EW K tb Γ Ω1 fun b Ω2 => R2W K r a b Ω2 P) : EW K (tOp r ta tb) Γ Ω P := fun F σ H Q k q =>
  h F σ H _ k fun a v Ω1 H1 h1 k1 v1 => h1 (Fz Ω1 H1) σ H1 _ k1.re fun b w Ω2 H2 h2 k2 v2 =>
    h2 (Fz Ω2 H2) H2 v w Q k2.bare.re (v1.same k2.fr) v2 fun c u Ω3 H3 hp k3 v3 => q c u Ω3 H3 hp ((k2.anchor k1.fr).back k3) v3
theorem e_un {r1 : V → Hp → VK → Prop} (h : EW K ta Γ Ω fun a Ω1 => R1W K r1 a Ω1 P) : EW K (tUn r1 ta) Γ Ω P := fun F σ H Q k q =>
  h F σ H _ k fun a v Ω1 H1 h1 k1 v1 => h1 (Fz Ω1 H1) H1 v Q k1.bare.re v1 fun c u Ω3 H3 hp k3 v3 => q c u Ω3 H3 hp (k1.back k3) v3
theorem e_then {r1 : V → Hp → VK → Prop} (h : EW K ta Γ Ω fun a Ω1 => R1W K r1 a Ω1 P) : EW K (tThen ta r1) Γ Ω P := e_un h
theorem a_nil {P : List Av → AH → Prop} (h : P [] Ω) : AW K tNil Γ Ω P := fun F σ H Q k q => q [] [] Ω H h k .nil
theorem a_cons {P : List Av → AH → Prop} (h : EW K ta Γ Ω fun a Ω1 => AW K tl Γ Ω1 fun as Ω2 => P (a :: as) Ω2) : AW K (tCons ta tl) Γ Ω P := fun F σ H Q k q =>
  h F σ H _ k fun a v Ω1 H1 h1 k1 v1 => h1 (Fz Ω1 H1) σ H1 _ k1.re fun as vs Ω2 H2 h2 k2 v2 => q (a :: as) (v :: vs) Ω2 H2 h2 (k2.anchor k1.fr) (.cons (v1.same k2.fr) v2)
theorem e_cb {rc : List V → Hp → VK → Prop} (h : AW K tl Γ Ω fun as Ω1 => RCW K rc as Ω1 P) : EW K (tCB rc tl) Γ Ω P := fun F σ H Q k q =>
  h F σ H _ k fun as vs Ω1 H1 h1 k1 v1 => h1 (Fz Ω1 H1) H1 vs Q k1.bare.re v1 fun c u Ω3 H3 hp k3 v3 => q c u Ω3 H3 hp (k1.back k3) v3
theorem sz_of {n : Nat} (h : n ≤ 100000) : n ≤ sizeLine := Nat.le_trans h (by decide)
theorem sz_lt {n : Nat} (h : n < 100000) : n < sizeLine := Nat.lt_of_lt_of_le h (by decide)
/-- a tuple of data; a tuple that holds lists that change -/
theorem e_tup (h : AW K tl Γ Ω fun as Ω1 => ∃ ds, as = ds.map .dat ∧ ds.length ≤ 100000 ∧ P (.dat (.tuple ds)) Ω1) : EW K (tTup tl) Γ Ω P := fun F σ H Q k q =>
  h F σ H _ k fun as vs Ω1 H1 ⟨ds, e, hl, hp⟩ k1 v1 => by
    subst e
    have l1 := v1.length
    rw [List.length_map] at l1
    refine ⟨sz_of (by omega), fun p np => ?_⟩
    have s := same_new (o := .tup vs) np
    exact q _ _ Ω1 _ hp (k1.same s) (.dat (.tup (.inl (.inl (Fz_at (k1.off np)))) (v1.dats.same (Fz_same s))))
theorem e_tupA (h : AW K tl Γ Ω fun as Ω1 => as.length ≤ 100000 ∧ P (.tup as) Ω1) : EW K (tTup tl) Γ Ω P := fun F σ H Q k q =>
  h F σ H _ k fun as vs Ω1 H1 ⟨hl, hp⟩ k1 v1 => by
    have l1 := v1.length
    refine ⟨sz_of (by omega), fun p np => ?_⟩
    have s := same_new (o := .tup vs) np
    exact q _ _ Ω1 _ hp (k1.same s) (.tup (Fz_at (k1.off np)) (v1.same (Fz_same s)))
/-- a list of data that is to change no more; a list that may -/
theorem e_lst (h : AW K tl Γ Ω fun as Ω1 => ∃ ds, as = ds.map .dat ∧ ds.length ≤ 100000 ∧ P (.dat (.list ds)) Ω1) : EW K (tLst tl) Γ Ω P := fun F σ H Q k q =>
  h F σ H _ k fun as vs Ω1 H1 ⟨ds, e, hl, hp⟩ k1 v1 => by
    subst e
    have l1 := v1.length
    rw [List.length_map] at l1
    refine ⟨sz_of (by omega), fun p np => ?_⟩
    have s := same_new (o := .lst vs) np
    exact q _ _ Ω1 _ hp (k1.same s) (.dat (.lst (Fz_at (k1.off np)) (v1.dats.same (Fz_same s))))
theorem e_lstP (h : AW K tl Γ Ω fun as Ω1 => as.length ≤ 100000 ∧ ∀ p, Ω1 p = none → P (.ptr p) (put Ω1 p as)) : EW K (tLst tl) Γ Ω P := fun F σ H Q k q =>
  h F σ H _ k fun as vs Ω1 H1 ⟨hl, hp⟩ k1 v1 => by
    have l1 := v1.length
    exact ⟨sz_of (by omega), fun p np => q _ _ _ _ (hp p (k1.free np)) (k1.new np v1) (.ptr p)⟩
/-! tests -/
theorem t_test {P : Bool → AH → Prop} (h : EW K te Γ Ω fun a Ω' => ∃ b, a = .dat (.bool b) ∧ P b Ω') : TW K (tTest te) Γ Ω P := fun F σ H Q k q =>
  h F σ H _ k fun a v Ω' H' ⟨b, e, hp⟩ k' hv => by
    subst e
    cases hv with
    | dat hv =>
      cases hv
      exact ⟨b, rfl, q b Ω' H' hp k'⟩
theorem t_B {P : Bool → AH → Prop} (h : EW K te Γ Ω fun a Ω' => ∃ b, a = .dat (.bool b) ∧ P b Ω') : TW K (tB te) Γ Ω P := t_test h
theorem t_yes {P : Bool → AH → Prop} (h : P true Ω) : TW K tYes Γ Ω P := fun F σ H Q k q => q true Ω H h k
theorem t_not {P : Bool → AH → Prop} (h : TW K tt Γ Ω fun b Ω' => P (!b) Ω') : TW K (tNot tt) Γ Ω P := fun F σ H Q k q => h F σ H _ k fun b Ω' H' hp k' => q _ _ _ hp k'
theorem t_and {P : Bool → AH → Prop} (h : TW K tt Γ Ω fun b Ω1 => (b = true → TW K tu Γ Ω1 P) ∧ (b = false → P false Ω1)) : TW K (tAnd tt tu) Γ Ω P := fun F σ H Q k q =>
  h F σ H _ k fun b Ω1 H1 hp k1 => by
    cases b with
    | true => exact hp.1 rfl F σ H1 Q k1 q
    | false => exact q _ _ _ (hp.2 rfl) k1
theorem t_or {P : Bool → AH → Prop} (h : TW K tt Γ Ω fun b Ω1 => (b = true → P true Ω1) ∧ (b = false → TW K tu Γ Ω1 P)) : TW K (tOr tt tu) Γ Ω P := fun F σ H Q k q =>
  h F σ H _ k fun b Ω1 H1 hp k1 => by
    cases b with
    | true => exact q _ _ _ (hp.1 rfl) k1
    | false => exact hp.2 rfl F σ H1 Q k1 q
theorem e_andV (h : EW K ta Γ Ω fun a Ω1 => ∃ b, a = .dat (.bool b) ∧ (b = true → EW K tb Γ Ω1 P) ∧ (b = false → P (.dat (.bool false)) Ω1)) : EW K (tAndV ta tb) Γ Ω P := fun F σ H Q k q =>
  h F σ H _ k fun a v Ω1 H1 ⟨b, e, h1, h2⟩ k1 v1 => by
    subst e
    cases v1 with
    | dat v1 =>
      cases v1
      refine ⟨b, rfl, ?_⟩
      cases b with
      | true => exact h1 rfl F σ H1 Q k1 q
      | false => exact q _ _ _ _ (h2 rfl) k1 (.dat (.bl false))
theorem e_orV (h : EW K ta Γ Ω fun a Ω1 => ∃ b, a = .dat (.bool b) ∧ (b = true → P (.dat (.bool true)) Ω1) ∧ (b = false → EW K tb Γ Ω1 P)) : EW K (tOrV ta tb) Γ Ω P := fun F σ H Q k q =>
  h F σ H _ k fun a v Ω1 H1 ⟨b, e, h1, h2⟩ k1 v1 => by
    subst e
    cases v1 with
    | dat v1 =>
      cases v1
      refine ⟨b, rfl, ?_⟩
      cases b with
      | true => exact q _ _ _ _ (h1 rfl) k1 (.dat (.bl true))
      | false => exact h2 rfl F σ H1 Q k1 q
theorem e_notV (h : EW K ta Γ Ω fun a Ω1 => ∃ b, a = .dat (.bool b) ∧ P (.dat (.bool (!b))) Ω1) : EW K (tNotV ta) Γ Ω P := fun F σ H Q k q =>
  h F σ H _ k fun a v Ω1 H1 ⟨b, e, h1⟩ k1 v1 => by
    subst e
    cases v1 with
    | dat v1 =>
      cases v1
      exact ⟨b, rfl, q _ _ _ _ h1 k1 (.dat (.bl _))⟩
theorem e_if (h : TW K tt Γ Ω fun b Ω1 => (b = true → EW K ta Γ Ω1 P) ∧ (b = false → EW K tb Γ Ω1 P)) : EW K (tIf tt ta tb) Γ Ω P := fun F σ H Q k q =>
  h F σ H _ k fun b Ω1 H1 hp k1 => by
    cases b with
    | true => exact hp.1 rfl F σ H1 Q k1 q
    | false => exact hp.2 rfl F σ H1 Q k1 q
/-- a chain of two comparisons -/
theorem e_chain (h : EW K ta Γ Ω fun a Ω1 => EW K tb Γ Ω1 fun b Ω2 => R2W K r a b Ω2 fun c Ω3 => ∃ z, c = .dat (.bool z) ∧ (z = true → EW K tc Γ Ω3 fun d Ω4 => R2W K r' b d Ω4 P) ∧ (z = false → P (.dat (.bool false)) Ω3)) : EW K (tChain r r' ta tb tc) Γ Ω P := fun F σ H Q k q =>
  h F σ H _ k fun a v Ω1 H1 h1 k1 v1 => h1 (Fz Ω1 H1) σ H1 _ k1.re fun b w Ω2 H2 h2 k2 v2 =>
    h2 (Fz Ω2 H2) H2 v w _ k2.bare.re (v1.same k2.fr) v2 fun c u Ω3 H3 ⟨z, ec, g1, g2⟩ k3 v3 => by
      subst ec
      have k3' := (k2.anchor k1.fr).back k3
      cases v3 with
      | dat v3 =>
        cases v3
        refine ⟨z, rfl, ?_⟩
        cases z with
        | true =>
          exact g1 rfl (Fz Ω3 H3) σ H3 _ k3'.re fun d x Ω4 H4 h4 k4 v4 =>
            h4 (Fz Ω4 H4) H4 w x Q k4.bare.re ((v2.same k3.fr).same k4.fr) v4 fun e y Ω5 H5 hp k5 v5 => q e y Ω5 H5 hp ((k4.anchor k3'.fr).back k5) v5
        | false => exact q _ _ _ _ (g2 rfl) k3' (.dat (.bl false))
end
end Dat

set_option Elab.async false
set_option linter.all false
set_option maxRecDepth 100000
set_option maxHeartbeats 1000000
namespace Dat
open PySem PySem.Spec PyProof.Rows L2
/-! ### operations on data -/
def canFlat : PyData → Bool
  | .none => true
  | .bool _ => true
  | .int _ => true
  | .str _ => true
  | _ => false
/-- == of two flat data as the rules for single values tell it -/
def scalD : PyData → PyData → Bool
  | .none, .none => true | .none, .int _ => true | .int _, .none => true | .none, .bool _ => true | .bool _, .none => true | .none, .str _ => true | .str _, .none => true
  | .int _, .int _ => true | .bool _, .bool _ => true | .str _, .str _ => true
  | .int _, .str _ => true | .str _, .int _ => true | .bool _, .str _ => true | .str _, .bool _ => true
  | _, _ => false
def eqD : PyData → PyData → Bool
  | .none, .none => true
  | .int i, .int j => decide (i = j)
  | .bool a, .bool b => decide (a = b)
  | .str x, .str y => decide (x = y)
  | _, _ => false
section
variable {K : PySem.W.Frag} [Tb K] {H : Hp}
theorem dq_eq {x y : V} {d e : PyData} (hx : Dq K H x d) (hy : Dq K H y e) (h : scalD d e = true) : scal x y = true ∧ decide (x = y) = eqD d e := by
  cases hx <;> cases hy <;> first | (cases h; done) | (refine ⟨rfl, ?_⟩; simp [eqD])
mutual
theorem Dq.dp : ∀ {v : V} {d : PyData}, Dq K H v d → d.canLay0 = true → Dp K H v d
  | _, _, .non, _ => .non
  | _, _, .bl b, _ => .bl b
  | _, _, .int i, _ => .int i
  | _, _, .str x, _ => .str x
  | _, _, .lst h g, e => .lst (SqL.of h) (DqAll.dp g (by simpa [PyData.canLay0] using e))
  | _, _, .tup h g, e => .tup h (DqAll.dp g (by simpa [PyData.canLay0] using e))
  | _, _, .dct h, e => by simp [PyData.canLay0] at e
theorem DqAll.dp : ∀ {vs : List V} {ds : List PyData}, DqAll K H vs ds → PyData.canLayAll0 ds = true → DpAll K H vs ds
  | _, _, .nil, _ => .nil
  | _, _, .cons h g, e => by
    rw [PyData.canLayAll0, Bool.and_eq_true] at e
    exact .cons (Dq.dp h e.1) (DqAll.dp g e.2)
end
theorem dq_flat {v : V} {d : PyData} (h : Dq K H v d) (f : canFlat d = true) : flatV v = true := by
  cases h <;> first | rfl | cases f
theorem dqAll_flat : ∀ {vs : List V} {ds : List PyData}, DqAll K H vs ds → ds.all canFlat = true → vs.all flatV = true
  | _, _, .nil, _ => rfl
  | _, _, .cons h g, f => by
    rw [List.all_cons, Bool.and_eq_true] at f
    rw [List.all_cons, dq_flat h f.1, dqAll_flat g f.2]
    rfl
theorem dq_eqv {x y : V} {d e : PyData} (hx : Dq K H x d) (hy : Dq K H y e) (fd : canFlat d = true) (fe : canFlat e = true) : eqV x y = PyData.eqv d e := by
  cases hx <;> cases hy <;> first | (cases fd; done) | (cases fe; done) | (simp [eqV, PyData.eqv])
theorem dq_in {x : V} {d : PyData} (hx : Dq K H x d) (fd : canFlat d = true) : ∀ {ys : List V} {es : List PyData}, DqAll K H ys es → es.all canFlat = true → inV x ys = es.any fun e => PyData.eqv e d
  | _, _, .nil, _ => rfl
  | y :: ys, e :: es, .cons h g, f => by
    rw [List.all_cons, Bool.and_eq_true] at f
    have ih := dq_in hx fd g f.2
    show (eqV y x || inV x ys) = (PyData.eqv e d || es.any fun e => PyData.eqv e d)
    rw [ih, dq_eqv h hx f.1 fd]
end
def cutD {α : Type} (xs : List α) (lo hi : Option Int) : List α := (xs.drop (HT.sIx xs.length 0 lo)).take (HT.sIx xs.length xs.length hi - HT.sIx xs.length 0 lo)
section
variable {K : PySem.W.Frag} [Tb K] {F : Hp} {Γ : List (Option Av)} {Ω : AH} {P : Av → AH → Prop} {ta tb te : TE} {i j : Int} {d e : PyData} {ds es : List PyData} {p : Addr} {as : List Av}
theorem DqAll.cut {H : Hp} {vs : List V} (h : DqAll K H vs ds) (lo hi : Option Int) : DqAll K H (cutV vs lo hi) (cutD ds lo hi) := by
  unfold cutV cutD
  rw [h.length]
  exact (h.drop _).take _
theorem atI_dq {H : Hp} {vs : List V} (h : DqAll K H vs ds) (e : atI ds i = some d) : ∃ v, atI vs i = some v ∧ Dq K H v d := by
  unfold atI at e ⊢
  rw [h.length]
  cases q : ixN ds.length i with
  | none => rw [q] at e; cases e
  | some j =>
    rw [q] at e
    exact h.get e
theorem atI_va {H : Hp} {vs : List V} {a : Av} (h : VAll K H as vs) (e : atI as i = some a) : ∃ v, atI vs i = some v ∧ VOk K H a v := by
  unfold atI at e ⊢
  rw [h.length]
  cases q : ixN as.length i with
  | none => rw [q] at e; cases e
  | some j =>
    rw [q] at e
    exact h.get e
theorem r_I0i {f : Int → Int → Int} (h : P (.dat (.int (f i j))) Ω) : R2W K (rI0 fun i j => .int (f i j)) (.dat (.int i)) (.dat (.int j)) Ω P := fun F H x y Q k hx hy q => by
  cases hx with | dat hx => cases hy with | dat hy =>
    cases hx
    cases hy
    exact ⟨_, _, rfl, rfl, q _ _ _ _ h k (.dat (.int _))⟩
theorem r_I0b {f : Int → Int → Bool} (h : P (.dat (.bool (f i j))) Ω) : R2W K (rI0 fun i j => .bl (f i j)) (.dat (.int i)) (.dat (.int j)) Ω P := fun F H x y Q k hx hy q => by
  cases hx with | dat hx => cases hy with | dat hy =>
    cases hx
    cases hy
    exact ⟨_, _, rfl, rfl, q _ _ _ _ h k (.dat (.bl _))⟩
theorem r_Ii {C : Int → Int → Prop} {f : Int → Int → Int} (c : C i j) (h : P (.dat (.int (f i j))) Ω) : R2W K (rI C fun i j => .int (f i j)) (.dat (.int i)) (.dat (.int j)) Ω P := fun F H x y Q k hx hy q => by
  cases hx with | dat hx => cases hy with | dat hy =>
    cases hx
    cases hy
    exact ⟨_, _, rfl, rfl, c, q _ _ _ _ h k (.dat (.int _))⟩
theorem r_neg (h : P (.dat (.int (-i))) Ω) : R1W K (rU fun i => .int (-i)) (.dat (.int i)) Ω P := fun F H x Q k hx q => by
  cases hx with | dat hx =>
    cases hx
    exact ⟨_, rfl, q _ _ _ _ h k (.dat (.int _))⟩
theorem r_eq (s : scalD d e = true) (h : P (.dat (.bool (eqD d e))) Ω) : R2W K rEq (.dat d) (.dat e) Ω P := fun F H x y Q k hx hy q => by
  cases hx with | dat hx => cases hy with | dat hy =>
    obtain ⟨h1, h2⟩ := dq_eq hx hy s
    refine ⟨h1, ?_⟩
    rw [h2]
    exact q _ _ _ _ h k (.dat (.bl _))
theorem r_ne (s : scalD d e = true) (h : P (.dat (.bool (!eqD d e))) Ω) : R2W K rNe (.dat d) (.dat e) Ω P := fun F H x y Q k hx hy q => by
  cases hx with | dat hx => cases hy with | dat hy =>
    obtain ⟨h1, h2⟩ := dq_eq hx hy s
    refine ⟨h1, ?_⟩
    rw [h2]
    exact q _ _ _ _ h k (.dat (.bl _))
theorem shaped_lay (h : SeqAt.shaped d = true) : d.canLay0 = true := SeqAt.canLay_of_shaped h
theorem r_eqD (s1 : SeqAt.shaped d = true) (s2 : SeqAt.shaped e = true) (h : P (.dat (.bool (PyData.eqv d e))) Ω) : R2W K (rEqD K) (.dat d) (.dat e) Ω P := fun F H x y Q k hx hy q => by
  cases hx with | dat hx => cases hy with | dat hy =>
    exact ⟨d, e, (hx.same Fz_le).dp (shaped_lay s1), (hy.same Fz_le).dp (shaped_lay s2), s1, s2, q _ _ _ _ h k (.dat (.bl _))⟩
theorem r_neD (s1 : SeqAt.shaped d = true) (s2 : SeqAt.shaped e = true) (h : P (.dat (.bool (!PyData.eqv d e))) Ω) : R2W K (rNeD K) (.dat d) (.dat e) Ω P := fun F H x y Q k hx hy q => by
  cases hx with | dat hx => cases hy with | dat hy =>
    exact ⟨d, e, (hx.same Fz_le).dp (shaped_lay s1), (hy.same Fz_le).dp (shaped_lay s2), s1, s2, q _ _ _ _ h k (.dat (.bl _))⟩
def rIsNo : R2 := fun x y H Q => y = .non ∧ Q (.bl (decide (x = .non))) H
def rNotNo : R2 := fun x y H Q => y = .non ∧ Q (.bl (!decide (x = .non))) H
theorem op_isNo {X : Cx} : OpR X (compareOp .Is) rIsNo := op_isN
theorem op_notNo {X : Cx} : OpR X (compareOp .IsNot) rNotNo := op_notN
def isNone : PyData → Bool
  | .none => true
  | _ => false
theorem dq_none {H : Hp} {v : V} (h : Dq K H v d) : decide (v = .non) = isNone d := by
  cases h <;> simp [isNone]
theorem r_isN (h : P (.dat (.bool (isNone d))) Ω) : R2W K rIsNo (.dat d) (.dat .none) Ω P := fun F H x y Q k hx hy q => by
  cases hx with | dat hx => cases hy with | dat hy =>
    cases hy
    refine ⟨rfl, ?_⟩
    rw [dq_none hx]
    exact q _ _ _ _ h k (.dat (.bl _))
theorem r_notN (h : P (.dat (.bool (!isNone d))) Ω) : R2W K rNotNo (.dat d) (.dat .none) Ω P := fun F H x y Q k hx hy q => by
  cases hx with | dat hx => cases hy with | dat hy =>
    cases hy
    refine ⟨rfl, ?_⟩
    rw [dq_none hx]
    exact q _ _ _ _ h k (.dat (.bl _))
/-! items -/
theorem r_ixT (a : atI ds i = some d) (h : P (.dat d) Ω) : R2W K (rIxT K) (.dat (.tuple ds)) (.dat (.int i)) Ω P := fun F H x y Q k hx hy q => by
  cases hx with | dat hx => cases hy with | dat hy =>
    cases hy
    cases hx with | tup hs g =>
      obtain ⟨v, e, hv⟩ := atI_dq g a
      exact ⟨_, _, _, v, rfl, rfl, sqT_same Fz_le hs, e, q _ _ _ _ h k (.dat hv)⟩
theorem r_ixL (a : atI ds i = some d) (h : P (.dat d) Ω) : R2W K (rIxL K) (.dat (.list ds)) (.dat (.int i)) Ω P := fun F H x y Q k hx hy q => by
  cases hx with | dat hx => cases hy with | dat hy =>
    cases hy
    cases hx with | lst hs g =>
      obtain ⟨v, e, hv⟩ := atI_dq g a
      exact ⟨_, _, _, v, rfl, rfl, SqL.of (Fz_le _ _ hs), e, q _ _ _ _ h k (.dat hv)⟩
theorem r_ixP {a : Av} (o : Ω p = some as) (a' : atI as i = some a) (h : P a Ω) : R2W K (rIxL K) (.ptr p) (.dat (.int i)) Ω P := fun F H x y Q k hx hy q => by
  cases hx
  cases hy with | dat hy =>
    cases hy
    obtain ⟨xs, h1, h2⟩ := k.st p as o
    obtain ⟨v, e, hv⟩ := atI_va h2 a'
    exact ⟨p, xs, i, v, rfl, rfl, SqL.of h1, e, q _ _ _ _ h k hv⟩
theorem r_ixS {ns : List Int} {n : Int} (a : atI ns i = some n) (h : P (.dat (.int n)) Ω) : R2W K (rIxL K) (.scr ns) (.dat (.int i)) Ω P := fun F H x y Q k hx hy q => by
  cases hx with | scr hs => cases hy with | dat hy =>
    cases hy
    refine ⟨_, _, _, .int n, rfl, rfl, Same.seq Fz_le hs, ?_, q _ _ _ _ h k (.dat (.int n))⟩
    unfold atI at a ⊢
    rw [List.length_map]
    cases e : ixN ns.length i with
    | none => rw [e] at a; cases a
    | some j =>
      rw [e] at a
      show (ns.map V.int)[j]? = _
      rw [List.getElem?_map, show ns[j]? = some n from a]
      rfl
theorem r_inT {neg : Bool} (fd : canFlat d = true) (fe : ds.all canFlat = true) (h : P (.dat (.bool (if neg then !(ds.any fun e => PyData.eqv e d) else ds.any fun e => PyData.eqv e d))) Ω) : R2W K (rIn K neg) (.dat d) (.dat (.tuple ds)) Ω P := fun F H x y Q k hx hy q => by
  cases hx with | dat hx => cases hy with | dat hy => cases hy with | tup hs g =>
    refine ⟨_, _, rfl, .inr (sqT_same Fz_le hs), dq_flat hx fd, dqAll_flat g fe, ?_⟩
    rw [dq_in hx fd g fe]
    exact q _ _ _ _ h k (.dat (.bl _))
theorem r_inL {neg : Bool} (fd : canFlat d = true) (fe : ds.all canFlat = true) (h : P (.dat (.bool (if neg then !(ds.any fun e => PyData.eqv e d) else ds.any fun e => PyData.eqv e d))) Ω) : R2W K (rIn K neg) (.dat d) (.dat (.list ds)) Ω P := fun F H x y Q k hx hy q => by
  cases hx with | dat hx => cases hy with | dat hy => cases hy with | lst hs g =>
    refine ⟨_, _, rfl, .inl (SqL.of (Fz_le _ _ hs)), dq_flat hx fd, dqAll_flat g fe, ?_⟩
    rw [dq_in hx fd g fe]
    exact q _ _ _ _ h k (.dat (.bl _))
/-! sums of tuples and lists, parts -/
theorem tup_new {F : Hp} {H : Hp} {xs : List V} {Γ : List (Option Av)} {σ : L2.St} (k : Ok K F Ω Γ σ H) (np : H p = none) (g : DqAll K (Fz Ω H) xs ds) : Dq K (Fz Ω (upd H p (.tup xs))) (.ref p) (.tuple ds) :=
  .tup (.inl (.inl (Fz_at (k.off np)))) (g.same (Fz_same (same_new np)))
theorem lst_new {F : Hp} {H : Hp} {xs : List V} {Γ : List (Option Av)} {σ : L2.St} (k : Ok K F Ω Γ σ H) (np : H p = none) (g : DqAll K (Fz Ω H) xs ds) : Dq K (Fz Ω (upd H p (.lst xs))) (.ref p) (.list ds) :=
  .lst (Fz_at (k.off np)) (g.same (Fz_same (same_new np)))
theorem r_catT (hl : ds.length + es.length ≤ 100000) (h : P (.dat (.tuple (ds ++ es))) Ω) : R2W K (rCatA K) (.dat (.tuple ds)) (.dat (.tuple es)) Ω P := fun F H x y Q k hx hy q => by
  cases hx with | dat hx => cases hy with | dat hy => cases hx with | tup h1 g1 => cases hy with | tup h2 g2 =>
    have l1 := g1.length
    have l2 := g2.length
    refine ⟨_, _, _, _, rfl, rfl, sqT_same Fz_le h1, sqT_same Fz_le h2, sz_of (by omega), fun e => ?_, fun _ e => ?_, fun _ _ p np => ?_⟩
    · subst e
      cases g1
      exact q _ _ _ _ h k (.dat (.tup h2 g2))
    · subst e
      cases g2
      rw [List.append_nil] at h
      exact q _ _ _ _ h k (.dat (.tup h1 g1))
    · exact q _ _ _ _ h (k.same (same_new np)) (.dat (tup_new k np (g1.app g2)))
theorem r_catL (hl : ds.length + es.length ≤ 100000) (h : P (.dat (.list (ds ++ es))) Ω) : R2W K rCat (.dat (.list ds)) (.dat (.list es)) Ω P := fun F H x y Q k hx hy q => by
  cases hx with | dat hx => cases hy with | dat hy => cases hx with | lst h1 g1 => cases hy with | lst h2 g2 =>
    have l1 := g1.length
    have l2 := g2.length
    exact ⟨_, _, _, _, rfl, rfl, Fz_le _ _ h1, Fz_le _ _ h2, sz_of (by omega), fun p np => q _ _ _ _ h (k.same (same_new np)) (.dat (lst_new k np (g1.app g2)))⟩
/-- the first a list that may change, the sum one that may change too -/
theorem r_catPP {bs : List Av} {p2 : Addr} (o1 : Ω p = some as) (o2 : Ω p2 = some bs) (hl : as.length + bs.length ≤ 100000) (h : ∀ q, Ω q = none → P (.ptr q) (put Ω q (as ++ bs))) : R2W K rCat (.ptr p) (.ptr p2) Ω P := fun F H x y Q k hx hy q => by
  cases hx
  cases hy
  obtain ⟨xs, h1, g1⟩ := k.st p as o1
  obtain ⟨ys, h2, g2⟩ := k.st p2 bs o2
  have l1 := g1.length
  have l2 := g2.length
  exact ⟨_, _, _, _, rfl, rfl, h1, h2, sz_of (by omega), fun z nz => q _ _ _ _ (h z (k.free nz)) (k.new nz (g1.app g2)) (.ptr z)⟩
theorem VAll.ofL {H : Hp} {a : Addr} (h : Dq K H (.ref a) (.list ds)) : ∃ xs, H a = some (.lst xs) ∧ VAll K H (ds.map .dat) xs := by
  cases h with | lst h g => exact ⟨_, h, .ofDats g⟩
theorem r_catPL (o1 : Ω p = some as) (hl : as.length + ds.length ≤ 100000) (h : ∀ q, Ω q = none → P (.ptr q) (put Ω q (as ++ ds.map .dat))) : R2W K rCat (.ptr p) (.dat (.list ds)) Ω P := fun F H x y Q k hx hy q => by
  cases hx
  cases hy with | dat hy => cases hy with | lst h2 g2 =>
    obtain ⟨xs, h1, g1⟩ := k.st p as o1
    have l1 := g1.length
    have l2 := g2.length
    exact ⟨_, _, _, _, rfl, rfl, h1, Fz_le _ _ h2, sz_of (by omega), fun z nz => q _ _ _ _ (h z (k.free nz)) (k.new nz (g1.app (.ofDats g2))) (.ptr z)⟩
/-! slices -/
theorem o_no {P : Option Int → AH → Prop} (h : P none Ω) : OW K tNoPart Γ Ω P := fun F σ H Q k q => q _ _ _ h k
theorem o_some {P : Option Int → AH → Prop} (h : EW K te Γ Ω fun a Ω1 => ∃ i, a = .dat (.int i) ∧ P (some i) Ω1) : OW K (tPart te) Γ Ω P := fun F σ H Q k q =>
  h F σ H _ k fun a v Ω1 H1 ⟨i, e, hp⟩ k1 v1 => by
    subst e
    cases v1 with | dat v1 =>
      cases v1
      exact ⟨i, rfl, q _ _ _ hp k1⟩
theorem e_slT {tl th : TO} (h : EW K te Γ Ω fun a Ω1 => ∃ ds, a = .dat (.tuple ds) ∧ OW K tl Γ Ω1 fun lo Ω2 => OW K th Γ Ω2 fun hi Ω3 => P (.dat (.tuple (cutD ds lo hi))) Ω3) : EW K (tSl (rSlA K) te tl th) Γ Ω P := fun F σ H Q k q =>
  h F σ H _ k fun a v Ω1 H1 ⟨ds, e, h1⟩ k1 v1 => by
    subst e
    cases v1 with | dat v1 =>
      refine h1 (Fz Ω1 H1) σ H1 _ k1.re fun lo Ω2 H2 h2 k2 => h2 (Fz Ω2 H2) σ H2 _ k2.re fun hi Ω3 H3 h3 k3 => ?_
      have k3' := k3.anchor (k1.fr.trans k2.fr)
      have v3 := (v1.same k2.fr).same k3.fr
      cases v3 with | tup hs g =>
        have l := g.length
        refine ⟨_, _, rfl, sqT_same Fz_le hs, fun w => ?_, fun _ p np => ?_⟩
        · have e2 : cutD ds lo hi = ds := by
            unfold cutD
            rw [← l, w.1, w.2]
            rw [List.drop_zero, l]
            exact List.take_of_length_le (by omega)
          have h4 : P (.dat (.tuple (cutD ds lo hi))) Ω3 := h3
          rw [e2] at h4
          exact q _ _ _ _ h4 k3' (.dat (.tup hs g))
        · exact q _ _ _ _ h3 (k3'.same (same_new np)) (.dat (tup_new k3' np (g.cut lo hi)))
theorem e_slL {tl th : TO} (h : EW K te Γ Ω fun a Ω1 => ∃ ds, a = .dat (.list ds) ∧ OW K tl Γ Ω1 fun lo Ω2 => OW K th Γ Ω2 fun hi Ω3 => P (.dat (.list (cutD ds lo hi))) Ω3) : EW K (tSl (rSlL K) te tl th) Γ Ω P := fun F σ H Q k q =>
  h F σ H _ k fun a v Ω1 H1 ⟨ds, e, h1⟩ k1 v1 => by
    subst e
    cases v1 with | dat v1 =>
      refine h1 (Fz Ω1 H1) σ H1 _ k1.re fun lo Ω2 H2 h2 k2 => h2 (Fz Ω2 H2) σ H2 _ k2.re fun hi Ω3 H3 h3 k3 => ?_
      have k3' := k3.anchor (k1.fr.trans k2.fr)
      have v3 := (v1.same k2.fr).same k3.fr
      cases v3 with | lst hs g =>
        exact ⟨_, _, rfl, SqL.of (Fz_le _ _ hs), fun p np => q _ _ _ _ h3 (k3'.same (same_new np)) (.dat (lst_new k3' np (g.cut lo hi)))⟩
/-! ### calls of built-ins -/
def rLenQ (K : PySem.W.Frag) : List V → Hp → VK → Prop := fun xs H Q => ∃ p ys, xs = [.ref p] ∧ (SqL K H p ys ∨ SqT K H p ys) ∧ Q (.int ys.length) H
theorem cl_len {X : Cx} : CallR X (.builtin "len") (rLenQ X.K) := call_len_seq
theorem c_lenT (h : P (.dat (.int ds.length)) Ω) : RCW K (rLenQ K) [.dat (.tuple ds)] Ω P := fun F H xs Q k hx q => by
  cases hx with | cons hx g => cases g; cases hx with | dat hx => cases hx with | tup hs g =>
    refine ⟨_, _, rfl, .inr (sqT_same Fz_le hs), ?_⟩
    rw [g.length]
    exact q _ _ _ _ h k (.dat (.int _))
theorem c_lenL (h : P (.dat (.int ds.length)) Ω) : RCW K (rLenQ K) [.dat (.list ds)] Ω P := fun F H xs Q k hx q => by
  cases hx with | cons hx g => cases g; cases hx with | dat hx => cases hx with | lst hs g =>
    refine ⟨_, _, rfl, .inl (SqL.of (Fz_le _ _ hs)), ?_⟩
    rw [g.length]
    exact q _ _ _ _ h k (.dat (.int _))
theorem c_lenP (o : Ω p = some as) (h : P (.dat (.int as.length)) Ω) : RCW K (rLenQ K) [.ptr p] Ω P := fun F H xs Q k hx q => by
  cases hx with | cons hx g =>
    cases g
    cases hx
    obtain ⟨ys, h1, h2⟩ := k.st p as o
    refine ⟨p, ys, rfl, .inl (SqL.of h1), ?_⟩
    rw [h2.length]
    exact q _ _ _ _ h k (.dat (.int _))
theorem c_lenS {ns : List Int} (h : P (.dat (.int ns.length)) Ω) : RCW K (rLenQ K) [.scr ns] Ω P := fun F H xs Q k hx q => by
  cases hx with | cons hx g => cases g; cases hx with | scr hs =>
    refine ⟨_, _, rfl, .inl (Same.seq Fz_le hs), ?_⟩
    rw [List.length_map]
    exact q _ _ _ _ h k (.dat (.int _))
def rAbsQ : List V → Hp → VK → Prop := fun xs H Q => ∃ i, xs = [.int i] ∧ Q (.int (if i < 0 then -i else i)) H
theorem cl_abs {X : Cx} : CallR X (.builtin "abs") rAbsQ := call_abs
theorem c_abs (h : P (.dat (.int (if i < 0 then -i else i))) Ω) : RCW K rAbsQ [.dat (.int i)] Ω P := fun F H xs Q k hx q => by
  cases hx with | cons hx g => cases g; cases hx with | dat hx =>
    cases hx
    exact ⟨i, rfl, q _ _ _ _ h k (.dat (.int _))⟩
def rMax2Q : List V → Hp → VK → Prop := fun xs H Q => ∃ i j, xs = [.int i, .int j] ∧ Q (.int (if j > i then j else i)) H
def rMin2Q : List V → Hp → VK → Prop := fun xs H Q => ∃ i j, xs = [.int i, .int j] ∧ Q (.int (if j < i then j else i)) H
theorem cl_max2 {X : Cx} (hc : X.calm = true) : CallR X (.builtin "max") rMax2Q := call_max2 hc
theorem cl_min2 {X : Cx} (hc : X.calm = true) : CallR X (.builtin "min") rMin2Q := call_min2 hc
theorem c_max2 (h : P (.dat (.int (if j > i then j else i))) Ω) : RCW K rMax2Q [.dat (.int i), .dat (.int j)] Ω P := fun F H xs Q k hx q => by
  cases hx with | cons hx g => cases g with | cons hy g => cases g; cases hx with | dat hx => cases hy with | dat hy =>
    cases hx
    cases hy
    exact ⟨i, j, rfl, q _ _ _ _ h k (.dat (.int _))⟩
theorem c_min2 (h : P (.dat (.int (if j < i then j else i))) Ω) : RCW K rMin2Q [.dat (.int i), .dat (.int j)] Ω P := fun F H xs Q k hx q => by
  cases hx with | cons hx g => cases g with | cons hy g => cases g; cases hx with | dat hx => cases hy with | dat hy =>
    cases hx
    cases hy
    exact ⟨i, j, rfl, q _ _ _ _ h k (.dat (.int _))⟩
def rIntQ : List V → Hp → VK → Prop := fun xs H Q => (∃ i, xs = [.int i] ∧ Q (.int i) H) ∨ ∃ k, xs = [.bl k] ∧ Q (.int (if k then 1 else 0)) H
theorem cl_int {X : Cx} : CallR X (.type "int") rIntQ := call_int1
theorem c_intI (h : P (.dat (.int i)) Ω) : RCW K rIntQ [.dat (.int i)] Ω P := fun F H xs Q k hx q => by
  cases hx with | cons hx g => cases g; cases hx with | dat hx =>
    cases hx
    exact .inl ⟨i, rfl, q _ _ _ _ h k (.dat (.int _))⟩
theorem c_intB {b : Bool} (h : P (.dat (.int (if b then 1 else 0))) Ω) : RCW K rIntQ [.dat (.bool b)] Ω P := fun F H xs Q k hx q => by
  cases hx with | cons hx g => cases g; cases hx with | dat hx =>
    cases hx
    exact .inr ⟨b, rfl, q _ _ _ _ h k (.dat (.int _))⟩
theorem dq_intsL {H : Hp} {v : V} {ns : List Int} (h : Dq K H v (.list (ns.map PyData.int))) : ∃ a, v = .ref a ∧ H a = some (.lst (ns.map V.int)) := by
  cases h with | lst h g =>
    rw [g.ints] at h
    exact ⟨_, rfl, h⟩
theorem c_sum {ns : List Int} (h : P (.dat (.int ns.sum)) Ω) : RCW K (rSum K) [.dat (.list (ns.map PyData.int))] Ω P := fun F H xs Q k hx q => by
  cases hx with | cons hx g => cases g; cases hx with | dat hx =>
    obtain ⟨a, rfl, ha⟩ := dq_intsL hx
    exact ⟨a, ns, rfl, SqL.of (Fz_le _ _ ha), q _ _ _ _ h k (.dat (.int _))⟩
theorem c_max {ns : List Int} (ne : 0 < ns.length) (h : ∀ m, m ∈ ns → (∀ y, y ∈ ns → y ≤ m) → P (.dat (.int m)) Ω) : RCW K (rMax K) [.dat (.list (ns.map PyData.int))] Ω P := fun F H xs Q k hx q => by
  cases hx with | cons hx g => cases g; cases hx with | dat hx =>
    obtain ⟨a, rfl, ha⟩ := dq_intsL hx
    exact ⟨a, ns, rfl, SqL.of (Fz_le _ _ ha), ne, fun m h1 h2 => q _ _ _ _ (h m h1 h2) k (.dat (.int _))⟩
theorem c_min {ns : List Int} (ne : 0 < ns.length) (h : ∀ m, m ∈ ns → (∀ y, y ∈ ns → m ≤ y) → P (.dat (.int m)) Ω) : RCW K (rMin K) [.dat (.list (ns.map PyData.int))] Ω P := fun F H xs Q k hx q => by
  cases hx with | cons hx g => cases g; cases hx with | dat hx =>
    obtain ⟨a, rfl, ha⟩ := dq_intsL hx
    exact ⟨a, ns, rfl, SqL.of (Fz_le _ _ ha), ne, fun m h1 h2 => q _ _ _ _ (h m h1 h2) k (.dat (.int _))⟩
theorem c_sorted {ns : List Int} (l : ns.length < 64) (h : ∀ ns' : List Int, ns'.Perm ns → ns'.Pairwise (· ≤ ·) → P (.dat (.list (ns'.map PyData.int))) Ω) : RCW K (rSorted K) [.dat (.list (ns.map PyData.int))] Ω P := fun F H xs Q k hx q => by
  cases hx with | cons hx g => cases g; cases hx with | dat hx =>
    obtain ⟨a, rfl, ha⟩ := dq_intsL hx
    exact ⟨a, ns, rfl, SqL.of (Fz_le _ _ ha), l, fun ns' p h1 h2 np => q _ _ _ _ (h ns' h1 h2) (k.same (same_new np)) (.dat (lst_new k np .ofInts))⟩
theorem dq_bools : ∀ {H : Hp} {bs : List Bool} {vs : List V}, DqAll K H vs (bs.map PyData.bool) → vs = bs.map V.bl
  | _, [], _, h => by cases h; rfl
  | _, b :: r, _, h => by
    rw [List.map_cons] at h
    cases h with | cons h g =>
      cases h
      rw [dq_bools g, List.map_cons]
theorem c_all {bs : List Bool} (h : P (.dat (.bool (bs.all id))) Ω) : RCW K (rAll K) [.dat (.list (bs.map PyData.bool))] Ω P := fun F H xs Q k hx q => by
  cases hx with | cons hx g => cases g; cases hx with | dat hx => cases hx with | lst hs g =>
    rw [dq_bools g] at hs
    exact ⟨_, bs, rfl, SqL.of (Fz_le _ _ hs), q _ _ _ _ h k (.dat (.bl _))⟩
theorem c_any {bs : List Bool} (h : P (.dat (.bool (bs.any id))) Ω) : RCW K (rAny K) [.dat (.list (bs.map PyData.bool))] Ω P := fun F H xs Q k hx q => by
  cases hx with | cons hx g => cases g; cases hx with | dat hx => cases hx with | lst hs g =>
    rw [dq_bools g] at hs
    exact ⟨_, bs, rfl, SqL.of (Fz_le _ _ hs), q _ _ _ _ h k (.dat (.bl _))⟩
/-! isinstance -/
def kindD : PyData → String
  | .none => "NoneType"
  | .bool _ => "bool"
  | .int _ => "int"
  | .str _ => "str"
  | .list _ => "list"
  | .tuple _ => "tuple"
  | .dict _ => "dict"
theorem dq_ty {H : Hp} {v : V} (h : Dq K H v d) : TyX K H v (.type (kindD d)) := by
  cases h with
  | non => exact .base .non
  | bl b => exact .base (.bl b)
  | int i => exact .base (.int i)
  | str x => exact .base (.str x)
  | lst h _ => exact .base (.lst h)
  | tup h _ =>
    rcases h with (h | ⟨o, h⟩) | ⟨o, its, n, h, hc, _⟩
    · exact .base (.tup h)
    · exact .fTuple h
    · exact .kTuple h hc
  | dct h => exact .base (.dK h)
def isIntD : PyData → Bool
  | .int _ => true
  | .bool _ => true
  | _ => false
def isBoolD : PyData → Bool
  | .bool _ => true
  | _ => false
def isStrD : PyData → Bool
  | .str _ => true
  | _ => false
def isTupD : PyData → Bool
  | .tuple _ => true
  | _ => false
def isLstD : PyData → Bool
  | .list _ => true
  | _ => false
theorem kit_int : kitB (kindD d) "int" = some (isIntD d) := by cases d <;> (simp only [kindD, isIntD]; decide +kernel)
theorem kit_bool : kitB (kindD d) "bool" = some (isBoolD d) := by cases d <;> (simp only [kindD, isBoolD]; decide +kernel)
theorem kit_str : kitB (kindD d) "str" = some (isStrD d) := by cases d <;> (simp only [kindD, isStrD]; decide +kernel)
theorem kit_tuple : kitB (kindD d) "tuple" = some (isTupD d) := by cases d <;> (simp only [kindD, isTupD]; decide +kernel)
theorem kit_list : kitB (kindD d) "list" = some (isLstD d) := by cases d <;> (simp only [kindD, isLstD]; decide +kernel)
theorem e_ty {T : String} (h : P (.ty T) Ω) : EW K (tC (.ty T)) Γ Ω P := fun F σ H Q k q => q _ _ Ω H h k (.ty T)
theorem c_isi {T : String} {b : Bool} (e : kitB (kindD d) T = some b) (h : P (.dat (.bool b)) Ω) : RCW K (rIsi K) [.dat d, .ty T] Ω P := fun F H xs Q k hx q => by
  cases hx with | cons hx g => cases g with | cons hy g => cases g; cases hx with | dat hx => cases hy with | ty T =>
    exact ⟨_, _, _, _, b, rfl, .ty T, dq_ty (hx.same Fz_le), kit_ty e, q _ _ _ _ h k (.dat (.bl _))⟩
theorem c_isiP {T : String} {b : Bool} (o : Ω p = some as) (e : kitB "list" T = some b) (h : P (.dat (.bool b)) Ω) : RCW K (rIsi K) [.ptr p, .ty T] Ω P := fun F H xs Q k hx q => by
  cases hx with | cons hx g => cases g with | cons hy g =>
    cases g
    cases hx
    cases hy with | ty T =>
      obtain ⟨ys, h1, h2⟩ := k.st p as o
      exact ⟨_, _, _, _, b, rfl, .ty T, .base (.lst h1), kit_ty e, q _ _ _ _ h k (.dat (.bl _))⟩
/-! tuple(x), list(x) -/
theorem r_tupL (h : P (.dat (.tuple ds)) Ω) : R1W K (kTup K) (.dat (.list ds)) Ω P := fun F H x Q k hx q => by
  cases hx with | dat hx => cases hx with | lst hs g =>
    exact .inl ⟨_, _, rfl, SqL.of (Fz_le _ _ hs), fun p np => q _ _ _ _ h (k.same (same_new np)) (.dat (tup_new k np g))⟩
theorem r_tupT (h : P (.dat (.tuple ds)) Ω) : R1W K (kTup K) (.dat (.tuple ds)) Ω P := fun F H x Q k hx q => by
  cases hx with | dat hx => cases hx with | tup hs g =>
    exact .inr ⟨_, _, rfl, sqT_same Fz_le hs, q _ _ _ _ h k (.dat (.tup hs g))⟩
theorem r_tupP (o : Ω p = some (ds.map .dat)) (h : P (.dat (.tuple ds)) (del Ω p)) : R1W K (kTup K) (.ptr p) Ω P := fun F H x Q k hx q => by
  cases hx
  obtain ⟨k2, d2⟩ := k.frz o
  cases d2 with | lst hs g =>
    exact .inl ⟨_, _, rfl, SqL.of (Fz_le _ _ hs), fun u nu => q _ _ _ _ h (k2.same (same_new nu)) (.dat (tup_new k2 nu g))⟩
def rListQ (K : PySem.W.Frag) : List V → Hp → VK → Prop := fun xs H Q => ∃ p ys, xs = [.ref p] ∧ (SqL K H p ys ∨ SqT K H p ys) ∧ ∀ l, H l = none → Q (.ref l) (upd H l (.lst ys))
theorem cl_list {X : Cx} : CallR X (.type "list") (rListQ X.K) := call_list_of
theorem c_listT (h : P (.dat (.list ds)) Ω) : RCW K (rListQ K) [.dat (.tuple ds)] Ω P := fun F H xs Q k hx q => by
  cases hx with | cons hx g => cases g; cases hx with | dat hx => cases hx with | tup hs g =>
    exact ⟨_, _, rfl, .inr (sqT_same Fz_le hs), fun l nl => q _ _ _ _ h (k.same (same_new nl)) (.dat (lst_new k nl g))⟩
theorem c_listL (h : P (.dat (.list ds)) Ω) : RCW K (rListQ K) [.dat (.list ds)] Ω P := fun F H xs Q k hx q => by
  cases hx with | cons hx g => cases g; cases hx with | dat hx => cases hx with | lst hs g =>
    exact ⟨_, _, rfl, .inl (SqL.of (Fz_le _ _ hs)), fun l nl => q _ _ _ _ h (k.same (same_new nl)) (.dat (lst_new k nl g))⟩
theorem c_listTP (h : ∀ l, Ω l = none → P (.ptr l) (put Ω l (ds.map .dat))) : RCW K (rListQ K) [.dat (.tuple ds)] Ω P := fun F H xs Q k hx q => by
  cases hx with | cons hx g => cases g; cases hx with | dat hx => cases hx with | tup hs g =>
    exact ⟨_, _, rfl, .inr (sqT_same Fz_le hs), fun l nl => q _ _ _ _ (h l (k.free nl)) (k.new nl (.ofDats g)) (.ptr l)⟩
theorem c_listLP (h : ∀ l, Ω l = none → P (.ptr l) (put Ω l (ds.map .dat))) : RCW K (rListQ K) [.dat (.list ds)] Ω P := fun F H xs Q k hx q => by
  cases hx with | cons hx g => cases g; cases hx with | dat hx => cases hx with | lst hs g =>
    exact ⟨_, _, rfl, .inl (SqL.of (Fz_le _ _ hs)), fun l nl => q _ _ _ _ (h l (k.free nl)) (k.new nl (.ofDats g)) (.ptr l)⟩
end
end Dat

set_option Elab.async false
set_option linter.all false
set_option maxRecDepth 100000
set_option maxHeartbeats 1000000
namespace Dat
open PySem PySem.Spec PyProof.Rows L2
/-! ### targets -/
def GW (K : PySem.W.Frag) [Tb K] (g : TG) (a : Av) (Γ : List (Option Av)) (Ω : AH) (P : List (Option Av) → AH → Prop) : Prop :=
  ∀ (F : Hp) (σ : L2.St) (H : Hp) (v : V) (Q : L2.St → Hp → Prop), Ok K F Ω Γ σ H → VOk K (Fz Ω H) a v → (∀ Γ' σ' Ω' H', P Γ' Ω' → Ok K F Ω' Γ' σ' H' → Q σ' H') → g v σ H Q
def GsW (K : PySem.W.Frag) [Tb K] (g : TGs) (as : List Av) (Γ : List (Option Av)) (Ω : AH) (P : List (Option Av) → AH → Prop) : Prop :=
  ∀ (F : Hp) (σ : L2.St) (H : Hp) (vs : List V) (Q : L2.St → Hp → Prop), Ok K F Ω Γ σ H → VAll K (Fz Ω H) as vs → (∀ Γ' σ' Ω' H', P Γ' Ω' → Ok K F Ω' Γ' σ' H' → Q σ' H') → g vs σ H Q
structure EndA where
  nx : List (Option Av) → AH → Prop
  rt : Av → AH → Prop
  bk : List (Option Av) → AH → Prop := fun _ _ => False
  ct : List (Option Av) → AH → Prop := fun _ _ => False
structure EndOk (K : PySem.W.Frag) [Tb K] (F : Hp) (E : EndA) (D : Ends) : Prop where
  nx : ∀ Γ σ Ω H, E.nx Γ Ω → Ok K F Ω Γ σ H → D.nx σ H
  rt : ∀ a v Ω H, E.rt a Ω → Ok K F Ω [] [] H → VOk K (Fz Ω H) a v → D.rt v H
  bk : ∀ Γ σ Ω H, E.bk Γ Ω → Ok K F Ω Γ σ H → D.bk σ H
  ct : ∀ Γ σ Ω H, E.ct Γ Ω → Ok K F Ω Γ σ H → D.ct σ H
def SW (K : PySem.W.Frag) [Tb K] (ts : TS) (Γ : List (Option Av)) (Ω : AH) (E : EndA) : Prop :=
  ∀ (F : Hp) (σ : L2.St) (H : Hp) (D : Ends), Ok K F Ω Γ σ H → EndOk K F E D → ts D σ H
theorem EndOk.anchor {K : PySem.W.Frag} [Tb K] {F F1 : Hp} {E : EndA} {D : Ends} (e : EndOk K F E D) (s : Same F F1) : EndOk K F1 E D :=
  ⟨fun Γ σ Ω H h k => e.nx Γ σ Ω H h (k.anchor s), fun a v Ω H h k => e.rt a v Ω H h (k.anchor s), fun Γ σ Ω H h k => e.bk Γ σ Ω H h (k.anchor s), fun Γ σ Ω H h k => e.ct Γ σ Ω H h (k.anchor s)⟩
section
variable {K : PySem.W.Frag} [Tb K] {Γ : List (Option Av)} {Ω : AH} {E : EndA} {te ta tb : TE} {t u w : TS} {tt : TT} {g : TG} {gs : TGs} {tl : TA} {i j : Nat} {a : Av} {as : List Av} {ds : List PyData}
theorem g_name {P : List (Option Av) → AH → Prop} (h : P (Γ.set i (some a)) Ω) : GW K (gName i) a Γ Ω P := fun F σ H v Q k hv q => q _ _ _ _ h (k.set hv i)
theorem g_tup {n : Nat} {P : List (Option Av) → AH → Prop} (l : ds.length = n) (h : GsW K gs (ds.map .dat) Γ Ω P) : GW K (gTup K n gs) (.dat (.tuple ds)) Γ Ω P := fun F σ H v Q k hv q => by
  cases hv with | dat hv => cases hv with | tup hs g =>
    exact ⟨_, _, rfl, sqT_same Fz_le hs, by rw [g.length, l], h F σ H _ Q k (.ofDats g) q⟩
theorem g_tupA {n : Nat} {P : List (Option Av) → AH → Prop} (l : as.length = n) (h : GsW K gs as Γ Ω P) : GW K (gTup K n gs) (.tup as) Γ Ω P := fun F σ H v Q k hv q => by
  cases hv with | tup hs g =>
    exact ⟨_, _, rfl, SqT.of (Fz_le _ _ hs), by rw [g.length, l], h F σ H _ Q k g q⟩
theorem gs_nil {P : List (Option Av) → AH → Prop} (h : P Γ Ω) : GsW K gNil [] Γ Ω P := fun F σ H vs Q k hv q => by
  cases hv
  exact ⟨rfl, q _ _ _ _ h k⟩
theorem gs_cons {P : List (Option Av) → AH → Prop} (h : GW K g a Γ Ω fun Γ1 Ω1 => Ω1 = Ω ∧ GsW K gs as Γ1 Ω1 P) : GsW K (gCons g gs) (a :: as) Γ Ω P := fun F σ H vs Q k hv q => by
  cases hv with | cons hv hr =>
    exact ⟨_, _, rfl, h (Fz Ω H) σ H _ _ k.re hv fun Γ1 σ1 Ω1 H1 ⟨e, h1⟩ k1 => h1 F σ1 H1 _ Q (k1.anchor k.fr) (hr.same k1.fr) q⟩
/-! ### statements -/
theorem s_next (h : E.nx Γ Ω) : SW K tNext Γ Ω E := fun F σ H D k e => e.nx _ _ _ _ h k
theorem s_seq (h : SW K t Γ Ω { E with nx := fun Γ' Ω' => SW K u Γ' Ω' E }) : SW K (tSeq t u) Γ Ω E := fun F σ H D k e =>
  h F σ H { D with nx := u D } k ⟨fun Γ' σ' Ω' H' h' k' => h' F σ' H' D k' e, e.rt, e.bk, e.ct⟩
theorem s_cut (M : List (Option Av) → AH → Prop) (h : SW K t Γ Ω { E with nx := M }) (h2 : ∀ Γ' Ω', M Γ' Ω' → SW K u Γ' Ω' E) : SW K (C8.tCut t u) Γ Ω E := fun F σ H D k e =>
  ⟨fun σ' H' => ∃ Γ' Ω', M Γ' Ω' ∧ Ok K F Ω' Γ' σ' H', h F σ H _ k ⟨fun Γ' σ' Ω' H' hm k' => ⟨Γ', Ω', hm, k'⟩, e.rt, e.bk, e.ct⟩, fun σ' H' ⟨Γ', Ω', hm, k'⟩ => h2 Γ' Ω' hm F σ' H' D k' e⟩
theorem s_seqM (M : List (Option Av) → AH → Prop) (h : SW K t Γ Ω { E with nx := M }) (h2 : ∀ Γ' Ω', M Γ' Ω' → SW K u Γ' Ω' E) : SW K (tSeq t u) Γ Ω E := fun F σ H D k e =>
  h F σ H { D with nx := u D } k ⟨fun Γ' σ' Ω' H' hm k' => h2 Γ' Ω' hm F σ' H' D k' e, e.rt, e.bk, e.ct⟩
theorem SW.mono {E' : EndA} (h : SW K t Γ Ω E) (n : ∀ Γ' Ω', E.nx Γ' Ω' → E'.nx Γ' Ω') (r : ∀ a Ω', E.rt a Ω' → E'.rt a Ω') (b : ∀ Γ' Ω', E.bk Γ' Ω' → E'.bk Γ' Ω') (c : ∀ Γ' Ω', E.ct Γ' Ω' → E'.ct Γ' Ω') : SW K t Γ Ω E' := fun F σ H D k e =>
  h F σ H D k ⟨fun Γ' σ' Ω' H' z => e.nx _ _ _ _ (n _ _ z), fun a v Ω' H' z => e.rt _ _ _ _ (r _ _ z), fun Γ' σ' Ω' H' z => e.bk _ _ _ _ (b _ _ z), fun Γ' σ' Ω' H' z => e.ct _ _ _ _ (c _ _ z)⟩
theorem s_asgG (h : EW K te Γ Ω fun a Ω1 => GW K g a Γ Ω1 E.nx) : SW K (tAsg te g) Γ Ω E := fun F σ H D k e =>
  h F σ H _ k fun a v Ω1 H1 h1 k1 v1 => h1 F σ H1 v D.nx k1 v1 fun Γ' σ' Ω' H' h' k' => e.nx _ _ _ _ h' k'
theorem s_asg (h : EW K te Γ Ω fun a Ω1 => E.nx (Γ.set i (some a)) Ω1) : SW K (tAsg te (gName i)) Γ Ω E := fun F σ H D k e =>
  h F σ H _ k fun a v Ω1 H1 h1 k1 v1 => e.nx _ _ _ _ h1 (k1.set v1 i)
theorem s_par (h : AW K tl Γ Ω fun as Ω1 => ∃ a b, as = [a, b] ∧ E.nx ((Γ.set i (some a)).set j (some b)) Ω1) : SW K (tPar i j tl) Γ Ω E := fun F σ H D k e =>
  h F σ H _ k fun as vs Ω1 H1 ⟨a, b, ea, h1⟩ k1 v1 => by
    subst ea
    cases v1 with | cons va v1 => cases v1 with | cons vb v1 =>
      cases v1
      exact ⟨_, _, rfl, e.nx _ _ _ _ h1 ((k1.set va i).set vb j)⟩
theorem s_aug {f : Int → Int → Int} {x : Int} (hx : Γ[i]? = some (some (.dat (.int x)))) (h : EW K te Γ Ω fun a Ω1 => ∃ y, a = .dat (.int y) ∧ E.nx (Γ.set i (some (.dat (.int (f x y))))) Ω1) : SW K (tAug i te (ipI f)) Γ Ω E := fun F σ H D k e => by
  obtain ⟨v, ev, hv⟩ := k.val hx
  cases hv with | dat hv =>
    cases hv
    refine ⟨_, ev, h F σ H _ k fun a v Ω1 H1 ⟨y, ea, h1⟩ k1 v1 => ?_⟩
    subst ea
    cases v1 with | dat v1 =>
      cases v1
      exact ⟨x, y, rfl, rfl, e.nx _ _ _ _ h1 (k1.set (.dat (.int _)) i)⟩
theorem s_drop (h : EW K te Γ Ω fun _ Ω1 => E.nx Γ Ω1) : SW K (tDrop te) Γ Ω E := fun F σ H D k e => h F σ H _ k fun a v Ω1 H1 h1 k1 v1 => e.nx _ _ _ _ h1 k1
theorem s_ret (h : EW K te Γ Ω E.rt) : SW K (tRet te) Γ Ω E := fun F σ H D k e => h F σ H _ k fun a v Ω1 H1 h1 k1 v1 => e.rt _ _ _ _ h1 k1.bare v1
theorem s_retN (h : E.rt (.dat .none) Ω) : SW K tRetN Γ Ω E := fun F σ H D k e => e.rt _ _ _ _ h k.bare (.dat .non)
theorem s_brk (h : E.bk Γ Ω) : SW K tBreak Γ Ω E := fun F σ H D k e => e.bk _ _ _ _ h k
theorem s_cont (h : E.ct Γ Ω) : SW K tCont Γ Ω E := fun F σ H D k e => e.ct _ _ _ _ h k
theorem s_if (h : TW K tt Γ Ω fun b Ω1 => (b = true → SW K t Γ Ω1 E) ∧ (b = false → SW K u Γ Ω1 E)) : SW K (tIfS tt t u) Γ Ω E := fun F σ H D k e =>
  h F σ H _ k fun b Ω1 H1 hp k1 => by
    cases b with
    | true => exact hp.1 rfl F σ H1 D k1 e
    | false => exact hp.2 rfl F σ H1 D k1 e
/-- xs.append(e) -/
theorem e_app {P : Av → AH → Prop} (h : EW K ta Γ Ω fun a Ω1 => ∃ p, a = .ptr p ∧ (∃ bs, Ω1 p = some bs) ∧ AW K tl Γ Ω1 fun cs Ω2 => ∃ b as, cs = [b] ∧ Ω2 p = some as ∧ as.length < 100000 ∧ P (.dat .none) (put Ω2 p (as ++ [b]))) : EW K (tBM K "list" rAppend ta tl) Γ Ω P := fun F σ H Q k q =>
  h F σ H _ k fun a v Ω1 H1 ⟨p, ea, ⟨bs, eb⟩, h1⟩ k1 v1 => by
    subst ea
    cases v1
    obtain ⟨zs, hz, _⟩ := k1.st p bs eb
    refine ⟨.inl ⟨rfl, _, SqL.of hz⟩, h1 F σ H1 _ k1 fun cs vs Ω2 H2 ⟨b, as, ec, e2, l, hp⟩ k2 v2 => ?_⟩
    subst ec
    cases v2 with | cons vb v2 =>
      cases v2
      obtain ⟨xs, hx, g⟩ := k2.st p as e2
      have lx := g.length
      exact ⟨p, xs, _, rfl, rfl, hx, sz_lt (by omega), q _ _ _ _ hp (k2.put e2 (g.app (.cons vb .nil))) (.dat .non)⟩
/-- xs[i] = e -/
theorem s_setL (h : EW K te Γ Ω fun a Ω1 => EW K ta Γ Ω1 fun o Ω2 => ∃ p, o = .ptr p ∧ EW K tb Γ Ω2 fun c Ω3 => ∃ (z : Int) (as : List Av) (j : Nat), c = .dat (.int z) ∧ Ω3 p = some as ∧ ixN as.length z = some j ∧ E.nx Γ (put Ω3 p (as.set j a))) : SW K (tAsg te (gSub ta tb rSetL)) Γ Ω E := fun F σ H D k e =>
  h F σ H _ k fun a v Ω1 H1 h1 k1 v1 => h1 (Fz Ω1 H1) σ H1 _ k1.re fun o x Ω2 H2 ⟨p, eo, h2⟩ k2 v2 => by
    subst eo
    cases v2
    refine h2 (Fz Ω2 H2) σ H2 _ k2.re fun c y Ω3 H3 ⟨z, as, jj, ec, ep, ej, hn⟩ k3 v3 => ?_
    subst ec
    cases v3 with | dat v3 =>
      cases v3
      obtain ⟨xs, hx, g⟩ := k3.st p as ep
      refine ⟨p, xs, z, jj, rfl, rfl, hx, ?_, e.nx _ _ _ _ hn ((k3.anchor (k1.fr.trans k2.fr)).put ep (g.set jj ((v1.same k2.fr).same k3.fr)))⟩
      rw [g.length]
      exact ej
/-! ### walks -/
structure WalkA (K : PySem.W.Frag) [Tb K] (F : Hp) (J : It) (as : List Av) : Prop where
  go : ∀ (Ω : AH) (H : Hp), Ok K F Ω [] [] H → ∀ i a, as[i]? = some a → J.go i H ∧ ∀ x H', J.yld i H x H' → Same H H' ∧ VOk K (Fz Ω H') a x
  stop : ∀ (Ω : AH) (H : Hp), Ok K F Ω [] [] H → J.stop as.length H
def IW (K : PySem.W.Frag) [Tb K] (wi : TI) (Γ : List (Option Av)) (Ω : AH) (P : List Av → AH → Prop) : Prop :=
  ∀ (F : Hp) (σ : L2.St) (H : Hp) (R : It → Hp → Prop), Ok K F Ω Γ σ H → (∀ as Ω' H' J, P as Ω' → Ok K F Ω' Γ σ H' → WalkA K (Fz Ω' H') J as → R J H') → wi σ H R
theorem walk_t {F : Hp} {a : Addr} {xs : List V} (h : SqT K F a xs) (g : DqAll K F xs ds) : WalkA K F (Itt K a) (ds.map .dat) := by
  constructor
  · intro Ω H k i b e
    rw [List.getElem?_map] at e
    cases ed : ds[i]? with
    | none => rw [ed] at e; cases e
    | some d =>
      rw [ed] at e
      cases e
      obtain ⟨v, ev, hv⟩ := g.get ed
      have hs : SqT K H a xs := sqT_same (k.fr.trans Fz_le) h
      refine ⟨⟨xs, v, hs, ev⟩, fun x H' hy => ?_⟩
      obtain ⟨rfl, f⟩ := hy
      have := f xs hs
      rw [ev] at this
      cases this
      exact ⟨Same.refl _, .dat (hv.same k.fr)⟩
  · intro Ω H k
    rw [List.length_map]
    exact ⟨xs, sqT_same (k.fr.trans Fz_le) h, by rw [g.length]; exact Nat.le_refl _⟩
theorem walk_l {F : Hp} {a : Addr} {xs : List V} (h : F a = some (.lst xs)) (g : DqAll K F xs ds) : WalkA K F (Itl K a) (ds.map .dat) := by
  constructor
  · intro Ω H k i b e
    rw [List.getElem?_map] at e
    cases ed : ds[i]? with
    | none => rw [ed] at e; cases e
    | some d =>
      rw [ed] at e
      cases e
      obtain ⟨v, ev, hv⟩ := g.get ed
      have hs : SqL K H a xs := SqL.of ((k.fr.trans Fz_le) _ _ h)
      refine ⟨⟨xs, v, hs, ev⟩, fun x H' hy => ?_⟩
      obtain ⟨rfl, f⟩ := hy
      have := f xs hs
      rw [ev] at this
      cases this
      exact ⟨Same.refl _, .dat (hv.same k.fr)⟩
  · intro Ω H k
    rw [List.length_map]
    exact ⟨xs, SqL.of ((k.fr.trans Fz_le) _ _ h), by rw [g.length]; exact Nat.le_refl _⟩
def rngA (lo : Int) (n : Nat) : List Av := (List.range n).map fun k => .dat (.int (lo + (k : Nat)))
theorem walk_r {F : Hp} (lo : Int) (n : Nat) : WalkA K F (Itr lo n) (rngA lo n) := by
  constructor
  · intro Ω H k i b e
    unfold rngA at e
    rw [List.getElem?_map] at e
    by_cases hi : i < n
    · rw [List.getElem?_range hi] at e
      cases e
      exact ⟨hi, fun x H' hy => by
        obtain ⟨rfl, rfl⟩ := hy
        exact ⟨Same.refl _, .dat (.int _)⟩⟩
    · rw [List.getElem?_eq_none (by rw [List.length_range]; omega)] at e
      cases e
  · intro Ω H k
    unfold rngA
    rw [List.length_map, List.length_range]
    exact Nat.le_refl _
theorem i_tup {P : List Av → AH → Prop} (h : EW K te Γ Ω fun a Ω1 => ∃ ds, a = .dat (.tuple ds) ∧ P (ds.map .dat) Ω1) : IW K (iTup K te) Γ Ω P := fun F σ H R k q =>
  h F σ H _ k fun a v Ω1 H1 ⟨ds, e, hp⟩ k1 v1 => by
    subst e
    cases v1 with | dat v1 => cases v1 with | tup hs g =>
      exact ⟨_, rfl, ⟨_, sqT_same Fz_le hs⟩, q _ _ _ _ hp k1 (walk_t hs g)⟩
theorem i_list {P : List Av → AH → Prop} (h : EW K te Γ Ω fun a Ω1 => ∃ ds, a = .dat (.list ds) ∧ P (ds.map .dat) Ω1) : IW K (iList K te) Γ Ω P := fun F σ H R k q =>
  h F σ H _ k fun a v Ω1 H1 ⟨ds, e, hp⟩ k1 v1 => by
    subst e
    cases v1 with | dat v1 => cases v1 with | lst hs g =>
      exact ⟨_, rfl, ⟨_, SqL.of (Fz_le _ _ hs)⟩, q _ _ _ _ hp k1 (walk_l hs g)⟩
theorem i_rng1 {P : List Av → AH → Prop} (h : AW K tl Γ Ω fun as Ω1 => ∃ n : Int, as = [.dat (.int n)] ∧ (-(2 ^ 62) ≤ n ∧ n < 2 ^ 62) ∧ P (rngA 0 n.toNat) Ω1) : IW K (iRng1 tl) Γ Ω P := fun F σ H R k q =>
  h F σ H _ k fun as vs Ω1 H1 ⟨n, e, b, hp⟩ k1 v1 => by
    subst e
    cases v1 with | cons va v1 => cases v1; cases va with | dat va =>
      cases va
      exact ⟨n, rfl, b.1, b.2, q _ _ _ _ hp k1 (walk_r 0 n.toNat)⟩
theorem i_rng2 {P : List Av → AH → Prop} (h : AW K tl Γ Ω fun as Ω1 => ∃ lo n : Int, as = [.dat (.int lo), .dat (.int n)] ∧ (-(2 ^ 62) ≤ lo ∧ lo < 2 ^ 62 ∧ -(2 ^ 62) ≤ n ∧ n < 2 ^ 62) ∧ P (rngA lo (n - lo).toNat) Ω1) : IW K (iRng2 tl) Γ Ω P := fun F σ H R k q =>
  h F σ H _ k fun as vs Ω1 H1 ⟨lo, n, e, b, hp⟩ k1 v1 => by
    subst e
    cases v1 with | cons va v1 => cases v1 with | cons vb v1 => cases v1; cases va with | dat va => cases vb with | dat vb =>
      cases va
      cases vb
      exact ⟨lo, n, rfl, b, q _ _ _ _ hp k1 (walk_r lo _)⟩
/-- for: a word of the turn over the abstract state -/
theorem s_for {wi : TI} (M : List Av → Nat → List (Option Av) → AH → Prop) (h : IW K wi Γ Ω fun as Ω1 => M as 0 Γ Ω1 ∧
      (∀ i a Γ' Ω', as[i]? = some a → M as i Γ' Ω' → GW K g a Γ' Ω' fun Γ2 Ω2 => SW K t Γ2 Ω2 { E with nx := M as (i + 1), ct := M as (i + 1), bk := E.nx }) ∧ ∀ Γ' Ω', M as as.length Γ' Ω' → E.nx Γ' Ω') : SW K (tFor wi g t) Γ Ω E := fun F σ H D k e =>
  h F σ H _ k fun as Ω1 H1 J ⟨h0, hs, hd⟩ k1 wk => by
    have e1 := e.anchor k1.fr
    refine ⟨fun i m σ' H' => m = as.length - i ∧ i ≤ as.length ∧ ∃ Γ' Ω', M as i Γ' Ω' ∧ Ok K (Fz Ω1 H1) Ω' Γ' σ' H', ⟨_, rfl, Nat.zero_le _, Γ, Ω1, h0, k1.re⟩, ?_⟩
    rintro i m σ' H' ⟨rfl, hi, Γ', Ω', hm, k'⟩
    by_cases hlt : i < as.length
    · obtain ⟨hg, hy⟩ := wk.go Ω' H' k'.bare i _ (List.getElem?_eq_getElem hlt)
      refine .inr ⟨hg, fun σ2 H2 => ∃ Γ2 Ω2, M as (i + 1) Γ2 Ω2 ∧ Ok K (Fz Ω1 H1) Ω2 Γ2 σ2 H2, fun σ2 H2 ⟨Γ2, Ω2, hm2, k2⟩ => ⟨_, by omega, rfl, by omega, Γ2, Ω2, hm2, k2⟩, fun x H2 hyx => ?_⟩
      obtain ⟨s2, v2⟩ := hy x H2 hyx
      exact hs i _ Γ' Ω' (List.getElem?_eq_getElem hlt) hm (Fz Ω1 H1) σ' H2 x _ (k'.same s2) v2 fun Γ3 σ3 Ω3 H3 h3 k3 =>
        h3 (Fz Ω1 H1) σ3 H3 _ k3 ⟨fun Γ4 σ4 Ω4 H4 h4 k4 => ⟨Γ4, Ω4, h4, k4⟩, e1.rt, e1.nx, fun Γ4 σ4 Ω4 H4 h4 k4 => ⟨Γ4, Ω4, h4, k4⟩⟩
    · have ei : i = as.length := by omega
      subst ei
      exact .inl ⟨wk.stop Ω' H' k'.bare, e1.nx _ _ _ _ (hd Γ' Ω' hm) k'⟩
/-- while -/
theorem s_while (M : Nat → List (Option Av) → AH → Prop) (m0 : Nat) (h0 : M m0 Γ Ω)
    (hs : ∀ m Γ' Ω', M m Γ' Ω' → TW K tt Γ' Ω' fun b Ω1 => (b = true → SW K t Γ' Ω1 { E with nx := fun Γ2 Ω2 => ∃ m', m' < m ∧ M m' Γ2 Ω2, ct := fun Γ2 Ω2 => ∃ m', m' < m ∧ M m' Γ2 Ω2, bk := E.nx }) ∧ (b = false → E.nx Γ' Ω1)) : SW K (tWhile tt t) Γ Ω E := fun F σ H D k e => by
  refine ⟨fun m σ' H' => ∃ Γ' Ω', M m Γ' Ω' ∧ Ok K F Ω' Γ' σ' H', ⟨m0, Γ, Ω, h0, k⟩, ?_⟩
  rintro m σ' H' ⟨Γ', Ω', hm, k'⟩
  refine hs m Γ' Ω' hm F σ' H' _ k' fun b Ω1 H1 hb k1 => ?_
  cases b with
  | true =>
    show ∃ N : L2.St → Hp → Prop, (∀ σ' H', N σ' H' → ∃ m', m' < m ∧ ∃ Γ' Ω', M m' Γ' Ω' ∧ Ok K F Ω' Γ' σ' H') ∧ t { D with nx := N, ct := N, bk := D.nx } σ' H1
    exact ⟨fun σ2 H2 => ∃ Γ2 Ω2, (∃ m', m' < m ∧ M m' Γ2 Ω2) ∧ Ok K F Ω2 Γ2 σ2 H2, fun σ2 H2 ⟨Γ2, Ω2, ⟨m', lt, h2⟩, k2⟩ => ⟨m', lt, Γ2, Ω2, h2, k2⟩,
      hb.1 rfl F σ' H1 _ k1 ⟨fun Γ2 σ2 Ω2 H2 h2 k2 => ⟨Γ2, Ω2, h2, k2⟩, e.rt, e.nx, fun Γ2 σ2 Ω2 H2 h2 k2 => ⟨Γ2, Ω2, h2, k2⟩⟩⟩
  | false => exact e.nx _ _ _ _ (hb.2 rfl) k1
/-! ### comprehensions -/
/-- a target that stores into these slots alone -/
def GN (g : TG) (js : List Nat) : Prop := ∀ (v : V) (σ : L2.St) (H : Hp) (Q Q' : L2.St → Hp → Prop), (∀ σ' H', σ'.length = σ.length → (∀ i, i ∉ js → σ'[i]? = σ[i]?) → Q σ' H' → Q' σ' H') → g v σ H Q → g v σ H Q'
def GNs (g : TGs) (js : List Nat) : Prop := ∀ (vs : List V) (σ : L2.St) (H : Hp) (Q Q' : L2.St → Hp → Prop), (∀ σ' H', σ'.length = σ.length → (∀ i, i ∉ js → σ'[i]? = σ[i]?) → Q σ' H' → Q' σ' H') → g vs σ H Q → g vs σ H Q'
theorem gn_name {js : List Nat} (h : i ∈ js) : GN (gName i) js := fun v σ H Q Q' f q => f _ _ (List.length_set ..) (fun j hj => List.getElem?_set_ne (fun e => hj (by rw [← e]; exact h))) q
theorem gns_nil {js : List Nat} : GNs gNil js := fun vs σ H Q Q' f ⟨e, q⟩ => ⟨e, f _ _ rfl (fun _ _ => rfl) q⟩
theorem gns_cons {js : List Nat} (h1 : GN g js) (h2 : GNs gs js) : GNs (gCons g gs) js := fun vs σ H Q Q' f ⟨v, r, e, q⟩ => ⟨v, r, e, h1 v σ H _ _ (fun σ1 H1 l1 a1 q1 => h2 r σ1 H1 Q Q' (fun σ2 H2 l2 a2 q2 => f σ2 H2 (l2.trans l1) (fun i hi => (a2 i hi).trans (a1 i hi)) q2) q1) q⟩
theorem gn_tup {n : Nat} {js : List Nat} (h : GNs gs js) : GN (gTup K n gs) js := fun v σ H Q Q' f ⟨a, xs, e, hs, l, q⟩ => ⟨a, xs, e, hs, l, h xs σ H Q Q' f q⟩
theorem wipe_get {σ : L2.St} {i : Nat} : ∀ {vs : List Nat}, (L2.wipe σ vs)[i]? = if i ∈ vs ∧ i < σ.length then some none else σ[i]?
  | [] => by simp [L2.wipe]
  | v :: vs => by
    unfold L2.wipe
    by_cases e : v = i
    · subst e
      by_cases hl : v < σ.length
      · rw [List.getElem?_set_self (by rw [wipe_length]; exact hl), if_pos ⟨List.mem_cons_self, hl⟩]
      · rw [List.getElem?_eq_none (by rw [List.length_set, wipe_length]; omega), if_neg (fun h => hl h.2), List.getElem?_eq_none (by omega)]
    · rw [List.getElem?_set_ne e, wipe_get]
      have e' : ¬ i = v := fun q => e q.symm
      simp only [List.mem_cons, e', false_or]
theorem wipe_agree {σ σ2 : L2.St} {vs : List Nat} (l : σ2.length = (L2.wipe σ vs).length) (h : ∀ i, i ∉ vs → σ2[i]? = (L2.wipe σ vs)[i]?) : L2.wipe σ2 vs = L2.wipe σ vs := by
  rw [wipe_length] at l
  apply List.ext_getElem?
  intro i
  rw [wipe_get, wipe_get]
  by_cases hi : i ∈ vs
  · by_cases hl : i < σ.length
    · rw [if_pos ⟨hi, by omega⟩, if_pos ⟨hi, hl⟩]
    · rw [if_neg (fun z => hl (by omega)), if_neg (fun z => hl z.2), List.getElem?_eq_none (by omega), List.getElem?_eq_none (by omega)]
  · rw [if_neg (fun z => hi z.1), if_neg (fun z => hi z.1), h i hi, wipe_get, if_neg (fun z => hi z.1)]
/-- D: where the list grows; M: a word of the turn and what is made so far -/
theorem e_lc {wi : TI} {vs : List Nat} {P : Av → AH → Prop} (hg : GN g vs) (M : Addr → List Av → Nat → List Av → AH → Prop)
    (h : IW K wi Γ Ω fun as Ω1 => as.length ≤ 50000 ∧ ∀ D, Ω1 D = none → M D as 0 [] (put Ω1 D []) ∧
      (∀ i a acc Ω', as[i]? = some a → M D as i acc Ω' → Ω' D = some acc ∧ acc.length ≤ i ∧ GW K g a (wipeA Γ vs) Ω' fun Γ2 Ω2 => TW K tt Γ2 Ω2 fun b Ω3 =>
        (b = true → EW K te Γ2 Ω3 fun y Ω4 => Ω4 D = some acc ∧ M D as (i + 1) (acc ++ [y]) (put Ω4 D (acc ++ [y]))) ∧ (b = false → M D as (i + 1) acc Ω3)) ∧
      ∀ acc Ω', M D as as.length acc Ω' → P (.ptr D) Ω') : EW K (tLc wi g tt te vs) Γ Ω P := fun F σ H Q k q =>
  h F σ H _ k fun as Ω1 H1 J ⟨hz, hM⟩ k1 wk D nD => by
    obtain ⟨h0, hs, hd⟩ := hM D (k1.free nD)
    refine ⟨fun i m H' => m = as.length - i ∧ i ≤ as.length ∧ ∃ acc Ω', M D as i acc Ω' ∧ Ok K (Fz Ω1 H1) Ω' Γ σ H', ⟨_, rfl, Nat.zero_le _, [], put Ω1 D [], h0, k1.re.new nD .nil⟩, ?_⟩
    rintro i m H' ⟨rfl, hi, acc, Ω', hm, k'⟩
    by_cases hlt : i < as.length
    · obtain ⟨hgo, hy⟩ := wk.go Ω' H' k'.bare i _ (List.getElem?_eq_getElem hlt)
      refine .inr ⟨hgo, fun H2 => ∃ acc Ω2, M D as (i + 1) acc Ω2 ∧ Ok K (Fz Ω1 H1) Ω2 Γ σ H2, fun H2 ⟨acc2, Ω2, hm2, k2⟩ => ⟨_, by omega, rfl, by omega, acc2, Ω2, hm2, k2⟩, fun x H2 hyx => ?_⟩
      obtain ⟨s2, v2⟩ := hy x H2 hyx
      obtain ⟨eD, la, hb⟩ := hs i _ acc Ω' (List.getElem?_eq_getElem hlt) hm
      have k2 := k'.same s2
      refine hg x (L2.wipe σ vs) H2 _ _ (fun σ3 H3 l3 a3 q3 => ⟨wipe_agree l3 a3, q3⟩) ?_
      refine hb (Fz Ω' H2) (L2.wipe σ vs) H2 x _ (k2.re.wipe vs) v2 fun Γ3 σ3 Ω3 H3 h3 k3 => ?_
      refine h3 (Fz Ω3 H3) σ3 H3 _ k3.re fun b Ω4 H4 h4 k4 => ?_
      have k4' : Ok K (Fz Ω1 H1) Ω4 Γ σ H4 := k2.back ((k4.anchor k3.fr).bare)
      cases b with
      | true =>
        refine h4.1 rfl (Fz Ω4 H4) σ3 H4 _ k4.re fun y v Ω5 H5 ⟨e5, h5⟩ k5 v5 => ?_
        have k5' : Ok K (Fz Ω1 H1) Ω5 Γ σ H5 := k4'.back k5.bare
        obtain ⟨xs, hx, g5⟩ := k5.st D acc e5
        have l5 := g5.length
        exact ⟨xs, hx, sz_lt (by omega), _, _, h5, k5'.put e5 (g5.app (.cons v5 .nil))⟩
      | false => exact ⟨acc, Ω4, h4.2 rfl, k4'⟩
    · have ei : i = as.length := by omega
      subst ei
      exact .inl ⟨wk.stop Ω' H' k'.bare, q _ _ _ _ (hd acc Ω' hm) (k'.anchor k1.fr) (.ptr D)⟩
/-- the same, nothing changed by a turn: what is made of each item, and which items are taken -/
theorem e_lcF {α : Type} {wi : TI} {vs : List Nat} {P : Av → AH → Prop} (xs : List α) (enc : α → Av) (p : α → Bool) (out : α → PyData) (hg : GN g vs) (hz : xs.length ≤ 50000)
    (h : IW K wi Γ Ω fun as Ω1 => as = xs.map enc ∧ (∀ x Ω', x ∈ xs → (∀ q bs, Ω1 q = some bs → Ω' q = some bs) → GW K g (enc x) (wipeA Γ vs) Ω' fun Γ2 Ω2 => Ω2 = Ω' ∧ TW K tt Γ2 Ω2 fun b Ω3 => Ω3 = Ω' ∧ b = p x ∧ (p x = true → EW K te Γ2 Ω3 fun y Ω4 => Ω4 = Ω' ∧ y = .dat (out x))) ∧
      P (.dat (.list ((xs.filter p).map out))) Ω1) : EW K (tLc wi g tt te vs) Γ Ω P := by
  refine EW.frz ?_
  refine e_lc hg (fun D as i acc Ω' => ∃ Ω1 : AH, Ω1 D = none ∧ as = xs.map enc ∧ acc = (((xs.take i).filter p).map out).map .dat ∧ Ω' = put Ω1 D acc ∧ (∀ x Ω', x ∈ xs → (∀ q bs, Ω1 q = some bs → Ω' q = some bs) → GW K g (enc x) (wipeA Γ vs) Ω' fun Γ2 Ω2 => Ω2 = Ω' ∧ TW K tt Γ2 Ω2 fun b Ω3 => Ω3 = Ω' ∧ b = p x ∧ (p x = true → EW K te Γ2 Ω3 fun y Ω4 => Ω4 = Ω' ∧ y = .dat (out x))) ∧
      P (.dat (.list ((xs.filter p).map out))) Ω1) fun F σ H R k q => h F σ H R k fun as Ω1 H1 J ⟨e, hb, hp⟩ k1 wk => q as Ω1 H1 J ⟨by rw [e, List.length_map]; exact hz, fun D nD => ⟨⟨Ω1, nD, e, by simp, rfl, hb, hp⟩, fun i a acc Ω' ea hm => ?_, fun acc Ω' hm => ?_⟩⟩ k1 wk
  · obtain ⟨Ω0, n0, e0, rfl, rfl, hb0, hp0⟩ := hm
    subst e0
    rw [List.getElem?_map] at ea
    cases ex : xs[i]? with
    | none => rw [ex] at ea; cases ea
    | some x =>
      rw [ex] at ea
      cases ea
      have mx : x ∈ xs := List.mem_of_getElem? ex
      have tk : (xs.take (i + 1)).filter p = (xs.take i).filter p ++ (if p x = true then [x] else []) := by
        rw [List.take_add_one, ex, List.filter_append]
        show _ ++ (List.filter p [x]) = _
        rw [List.filter_cons, List.filter_nil]
      refine ⟨put_same, ?_, ?_⟩
      · rw [List.length_map, List.length_map]
        exact Nat.le_trans (List.length_filter_le ..) (by rw [List.length_take]; omega)
      refine fun F' σ' H' v Q' k' v' q' => hb0 x _ mx (fun q bs hq => by
        rw [put_ne (ne_of_Ω hq n0)]
        exact hq) F' σ' H' v Q' k' v' fun Γ2 σ2 Ω2 H2 ⟨e2, h2⟩ k2 => q' Γ2 σ2 Ω2 H2 ?_ k2
      subst e2
      refine fun F' σ' H' Q' k' q' => h2 F' σ' H' Q' k' fun b Ω3 H3 ⟨e3, eb, h3⟩ k3 => q' b Ω3 H3 ⟨fun hb => ?_, fun hb => ?_⟩ k3
      · subst e3
        refine (h3 (eb.symm.trans hb)).mono fun y Ω4 ⟨e4, ey⟩ => ?_
        subst e4 ey
        refine ⟨put_same, Ω0, n0, rfl, ?_, by rw [put_put], hb0, hp0⟩
        rw [tk, if_pos (eb.symm.trans hb), List.map_append, List.map_append]
        rfl
      · subst e3
        refine ⟨Ω0, n0, rfl, ?_, rfl, hb0, hp0⟩
        rw [tk, if_neg (by rw [← eb, hb]; decide), List.append_nil]
  · obtain ⟨Ω0, n0, e0, rfl, rfl, hb0, hp0⟩ := hm
    refine ⟨D, _, rfl, put_same, ?_⟩
    rw [del_put n0, e0, List.length_map, List.take_length]
    exact hp0
theorem e_lcM {α : Type} {wi : TI} {vs : List Nat} {P : Av → AH → Prop} (xs : List α) (enc : α → Av) (out : α → PyData) (hg : GN g vs) (hz : xs.length ≤ 50000)
    (h : IW K wi Γ Ω fun as Ω1 => as = xs.map enc ∧ (∀ x Ω', x ∈ xs → (∀ q bs, Ω1 q = some bs → Ω' q = some bs) → GW K g (enc x) (wipeA Γ vs) Ω' fun Γ2 Ω2 => Ω2 = Ω' ∧ EW K te Γ2 Ω2 fun y Ω4 => Ω4 = Ω' ∧ y = .dat (out x)) ∧
      P (.dat (.list (xs.map out))) Ω1) : EW K (tLc wi g tYes te vs) Γ Ω P :=
  e_lcF xs enc (fun _ => true) out hg hz fun F σ H R k q => h F σ H R k fun as Ω1 H1 J ⟨e, hb, hp⟩ k1 wk => q as Ω1 H1 J ⟨e, fun x Ω' mx hq F' σ' H' v Q' k' v' q' => hb x Ω' mx hq F' σ' H' v Q' k' v' fun Γ2 σ2 Ω2 H2 ⟨e2, h2⟩ k2 => q' Γ2 σ2 Ω2 H2 ⟨e2, t_yes ⟨e2, rfl, fun _ => h2⟩⟩ k2, by
    rw [List.filter_eq_self.mpr (fun _ _ => rfl)]
    exact hp⟩ k1 wk
/-! ### calls of defs -/
abbrev ASp := List Av → AH → (Av → AH → Prop) → Prop
def spA (K : PySem.W.Frag) [Tb K] (sp : ASp) : Sp := fun vs H Q _ => ∃ (F : Hp) (Ω : AH) (as : List Av) (P : Av → AH → Prop), Ok K F Ω [] [] H ∧ VAll K (Fz Ω H) as vs ∧ sp as Ω P ∧ ∀ a v Ω' H', P a Ω' → Ok K F Ω' [] [] H' → VOk K (Fz Ω' H') a v → Q v H'
theorem e_call {sp : ASp} {X : XK} {P : Av → AH → Prop} (h : AW K tl Γ Ω fun as Ω1 => sp as Ω1 P) : EW K (tCall (spA K sp) [] X tl) Γ Ω P := fun F σ H Q k q =>
  h F σ H _ k fun as vs Ω1 H1 h1 k1 v1 => by
    show spA K sp (vs ++ []) H1 Q X
    rw [List.append_nil]
    exact ⟨Fz Ω1 H1, Ω1, as, P, k1.bare.re, v1, h1, fun a v Ω' H' hp k' hv => q a v Ω' H' hp (k1.back k') hv⟩
theorem e_callD {sp : ASp} {X : XK} {P : Av → AH → Prop} {dvs : List V} {das : List Av} (hd : ∀ F, VAll K F das dvs) (h : AW K tl Γ Ω fun as Ω1 => sp (as ++ das) Ω1 P) : EW K (tCall (spA K sp) dvs X tl) Γ Ω P := fun F σ H Q k q =>
  h F σ H _ k fun as vs Ω1 H1 h1 k1 v1 => ⟨Fz Ω1 H1, Ω1, as ++ das, P, k1.bare.re, v1.app (hd _), h1, fun a v Ω' H' hp k' hv => q a v Ω' H' hp (k1.back k') hv⟩
theorem e_callN {sp : ASp} {X : XK} {P : Av → AH → Prop} {n m : Nat} {gV : List V → List V → List V} {tk : TA} (gA : List Av → List Av → List Av) (hg : ∀ F as bs vs us, VAll K F as vs → VAll K F bs us → VAll K F (gA as bs) (gV vs us))
    (h : AW K tl Γ Ω fun as Ω1 => AW K tk Γ Ω1 fun bs Ω2 => as.length = n ∧ bs.length = m ∧ sp (gA as bs) Ω2 P) : EW K (tCallN n m (spA K sp) gV X tl tk) Γ Ω P := fun F σ H Q k q =>
  h F σ H _ k fun as vs Ω1 H1 h1 k1 v1 => h1 (Fz Ω1 H1) σ H1 _ k1.re fun bs us Ω2 H2 ⟨l1, l2, h2⟩ k2 v2 => ⟨v1.length.trans l1, v2.length.trans l2, Fz Ω2 H2, Ω2, gA as bs, P, k2.bare.re, hg _ _ _ _ _ (v1.same k2.fr) v2, h2, fun a v Ω' H' hp k' hv => q a v Ω' H' hp ((k2.anchor k1.fr).back k') hv⟩
/-- keywords in another order -/
def kwV (π : List Nat) (zs : List V) : List V := π.map fun i => zs.getD i .non
def kwA (π : List Nat) (zs : List Av) : List Av := π.map fun i => zs.getD i (.dat .none)
def kwU (π : List Nat) (zs : List Value) : List Value := π.map fun i => zs.getD i .none
theorem kw_va {F : Hp} {bs : List Av} {us : List V} (h : VAll K F bs us) : ∀ π : List Nat, VAll K F (kwA π bs) (kwV π us)
  | [] => .nil
  | i :: r => .cons (by
      show VOk K F (bs.getD i (.dat .none)) (us.getD i .non)
      rw [List.getD_eq_getElem?_getD, List.getD_eq_getElem?_getD]
      cases e : bs[i]? with
      | none =>
        have : us[i]? = none := by
          rw [List.getElem?_eq_none_iff] at e ⊢
          rw [h.length]
          exact e
        rw [this]
        exact .dat .non
      | some b =>
        obtain ⟨v, ev, hv⟩ := h.get e
        rw [ev]
        exact hv) (kw_va h r)
theorem kw_vals {zs : List V} {ws : List Value} (h : Vals zs ws) : ∀ π : List Nat, Vals (kwV π zs) (kwU π ws)
  | [] => .nil
  | i :: r => .cons (by
      show L2.RelV (zs.getD i .non) (ws.getD i .none)
      rw [List.getD_eq_getElem?_getD, List.getD_eq_getElem?_getD]
      cases e : zs[i]? with
      | none =>
        have : ws[i]? = none := by
          rw [List.getElem?_eq_none_iff] at e ⊢
          rw [← h.length]
          exact e
        rw [this]
        rfl
      | some b =>
        obtain ⟨v, ev, hv⟩ := h.get e
        rw [ev]
        exact hv) (kw_vals h r)
end
section
variable {P : Program} {w : World} {K : PySem.W.Frag} [Tb K] {mg : Str → Option Value} {base : Heap}
theorem spA_len {sp : ASp} {n : Nat} (len : ∀ as Ω P, sp as Ω P → as.length = n) : ∀ vs H Q E, spA K sp vs H Q E → vs.length = n := fun vs H Q E ⟨F, Ω, as, P, k, va, h, _⟩ => va.length.trans (len as Ω P h)
/-- a def of the text keeps its promise -/
theorem fnA_ok {x qual : Str} {st : Stmt} {f : Addr} {fd : FuncData} {N ps : List Str} {k : Nat} {sp : ASp} (F : L2.Fun K x qual st f fd) (S : FnScope N ps (defScope st)) (len : ∀ as Ω P, sp as Ω P → as.length = ps.length)
    (hbody : ∀ (cdv : Value) (A : Around) (outer : List Env) (s : Shared) (H : Hp) (E : XK), Room k (A.deeper (envOfC qual (defScope st) s.heap.objs.size f cdv)) →
      ∃ t, PSs (cxOf CX0 P w K mg base N qual (defScope st) f cdv A outer s H E).nox (defBody st) t ∧ ∀ as Ω P, sp as Ω P → SW K t (as.map some ++ List.replicate (N.length - as.length) none) Ω { nx := fun _ Ω' => P (.dat .none) Ω', rt := P }) :
    FnOk P w K mg base CX0 (k + 1) f fd ps (spA K sp) := by
  refine F.ok S (spA_len len) fun cdv A outer s H vs Q E hr h => ?_
  obtain ⟨t, ht, hs⟩ := hbody cdv A outer s H E hr
  obtain ⟨F0, Ω, as, P, k0, va, h, hq⟩ := h
  refine ⟨t, ht, hs as Ω P h F0 (L2.start N vs) H _ ⟨k0.fr, k0.st, ?_, k0.tb, k0.ob⟩ ⟨fun Γ' σ' Ω' H' hp k' => hq _ _ _ _ hp k'.bare (.dat .non), fun a v Ω' H' hp k' hv => hq _ _ _ _ hp k' hv, fun _ _ _ _ z => z.elim, fun _ _ _ _ z => z.elim⟩⟩
  unfold L2.start
  rw [va.length]
  exact Slots.start (N := N) va _
end
end Dat

set_option Elab.async false
set_option linter.all false
set_option maxRecDepth 100000
set_option maxHeartbeats 1000000
/-! a lambda with parameters, handed to a def that calls it -/
namespace Clo
open PySem PySem.Spec PyProof.Rows L2 LamX NdefX
section
variable {cl : List (Str × Addr)} {fr : List Str} {ws : List (Option V)} {Z : Cx} {pins : List (Addr × Obj)} {σ : L2.St} {H : Hp} {s : Shared}
theorem cells_later (C : CellsAt cl fr ws Z.s_0.heap Z.H_0) (hx : Z.ex = []) (I : Inv Z pins σ H s) : CellsAt cl fr ws s.heap H := by
  have nx : ∀ b : Addr, b ∉ Z.ex := fun b q => by
    rw [hx] at q
    cases q
  have cell : ∀ y c, cl.lookup y = some c → ∀ v, Z.s_0.heap.IsCell c v → s.heap.IsCell c v := fun y c e v w => by
    obtain ⟨o, ho, hd⟩ := w
    obtain ⟨sl, q⟩ := I.base.any ho (C.all y c e).1 (nx c)
    exact ⟨_, q, hd⟩
  constructor
  · exact C.len
  · intro y c e
    obtain ⟨n, v, z⟩ := C.all y c e
    obtain ⟨o, ho, hd⟩ := id z
    exact ⟨I.base.free c o ho n (nx c), v, cell y c e v z⟩
  · exact C.inj
  · intro i y e
    obtain ⟨c, hc, hv⟩ := C.has i y e
    exact ⟨c, hc, fun v q => by
      obtain ⟨u, r, z⟩ := hv v q
      exact ⟨u, r, cell y c hc _ z⟩⟩
end
/-- the object at f is the lambda F with this body -/
def LamO (f : Addr) (F : NF) (body : Expr) : HO := .ext fun h => ∃ pm ctv, h.get? f = some (PySem.W.kla_obj F.name F.qual F.params body F.scope F.cl pm F.c ctv)
theorem lamO_at {P : Program} {w : World} {H : Hp} {h : Heap} {f : Addr} {F : NF} {body : Expr} (hok : HOk P w H h) (e : H f = some (LamO f F body)) : ∃ pm ctv, h.get? f = some (PySem.W.kla_obj F.name F.qual F.params body F.scope F.cl pm F.c ctv) := (hok f _ e).1
/-- what it promises; ws: what its captured cells hold -/
structure LOk (P : Program) (w : World) (K : PySem.W.Frag) (mg : Str → Option Value) (base : Heap) (CX : CXT) (k : Nat) (f : Addr) (F : NF) (body : Expr) (ps fr : List Str) (sp : List (Option V) → Sp) : Prop where
  len : ∀ ws vs H Q E, sp ws vs H Q E → vs.length = ps.length
  run : ∀ (A : Around) (outer : List Env) (s : Shared) (H : Hp) (us : List Value) (vs : List V) (ws : List (Option V)) (Q : VK) (E : XK), Room k A → Env0 P w K mg base A outer s H → H f = some (LamO f F body) →
    H F.c = some (CodeO F.c F.qual) → CellsAt F.cl fr ws s.heap H → Vals vs us → sp ws vs H Q E → codeAny (model P w) A (.call (.ref f) ⟨us, []⟩) (CR CX outer P w H s Q E) s
section
variable {CX : CXT} {P : Program} {w : World} {K : PySem.W.Frag} {mg : Str → Option Value} {base : Heap} {N ps fr : List Str} {F : NF} {f : Addr} {k : Nat} {sp : List (Option V) → Sp} {body : Expr}
theorem lok_of (S : NScope N ps fr F.scope) (hb : ∀ (pm ctv : Value) (us : List Value), us.length = ps.length → bindArgs (PySem.W.kla_fn F.name F.qual F.params body F.scope F.cl pm (.ref F.c) ctv) ⟨us, []⟩ = pure (ps.zip us))
    (len : ∀ ws vs H Q E, sp ws vs H Q E → vs.length = ps.length)
    (hbody : ∀ (A : Around) (outer : List Env) (s : Shared) (H : Hp) (vs : List V) (ws : List (Option V)) (Q : VK) (E : XK), Room k (A.deeper (envF F f s.heap.objs.size)) → ws.length = fr.length → sp ws vs H Q E →
      ∃ t, PE (ncx CX P w K mg base N F f A outer s H E) body t ∧ t (startF N vs ws) H Q) : LOk P w K mg base CX (k + 1) f F body ps fr sp := by
  constructor
  · exact len
  intro A outer s H us vs ws Q E hr e0 hf hc C r hsp
  have hl := len _ _ _ _ _ hsp
  have lim : s.heap.NoLimit := e0.mod.nolimit.keeps fun b o e => (e0.bs b o e).1
  obtain ⟨pm, ctv, ho⟩ := lamO_at e0.hok hf
  obtain ⟨⟨oc, vc, t, hoc, hdc, hvc⟩, _, _⟩ := e0.hok F.c _ hc
  refine PySem.W.kla_callFunE hr.depth ho rfl S.co S.gen rfl ⟨F.c, oc, vc, t, rfl, hoc, hdc, hvc⟩ ?_
  rw [hb pm ctv us (by rw [← r.length]; exact hl)]
  refine wpAny_pure (wpAny_newFunctionEnv S.nocell (fun y hy => S.par y.1 (List.of_mem_zip hy).1) (fun h₁ hns hsb => ⟨lim.fresh _ hsb, ?_⟩) S.kind)
  show codeAny _ _ (.expr body (envF F f s.heap.objs.size)) _ _
  obtain ⟨t2, ht, hq⟩ := hbody A outer s H vs ws Q E (hr.deeper _) C.len hsp
  have J := inv_startN (CX := CX) (N := N) (w := w) (E := E) (F := F) (f := f) (tk := s.toks + (ps.zip us).length) S hr.hd e0 hl r C hns (fun b o e => hsb.extBut b o (Nat.ne_of_lt (Heap.lt_size e)) (Heap.get?_push_of_some _ e))
  refine PySem.W.kla_codeExpr (wpAny_mono (ht.run [] _ (startF N vs ws) H Q J hq) (fun v s' z => ?_) fun e s' z => z)
  obtain ⟨u, H', J', rv, qv⟩ := z
  exact ⟨u, H', J'.os, J'.bare, J'.base, J'.hok, rv, qv⟩
end
/-- a def that is given a closure: its promise, the captured cells known at the call -/
structure FnC (P : Program) (w : World) (K : PySem.W.Frag) (mg : Str → Option Value) (base : Heap) (CX : CXT) (k : Nat) (g : Addr) (gd : FuncData) (ps : List Str) (cl : List (Str × Addr)) (fr : List Str) (sp : List (Option V) → Sp) : Prop where
  run : ∀ (A : Around) (outer : List Env) (s : Shared) (H : Hp) (args : Args) (us : List Value) (vs : List V) (ws : List (Option V)) (Q : VK) (E : XK), Room k A → Env0 P w K mg base A outer s H → BindsTo s gd args (ps.zip us) → Vals vs us →
    CellsAt cl fr ws s.heap H → sp ws vs H Q E → vs.length = ps.length → codeAny (model P w) A (.call (.ref g) args) (CR CX outer P w H s Q E) s
section
variable {CX : CXT} {P : Program} {w : World} {K : PySem.W.Frag} {mg : Str → Option Value} {base : Heap} {k : Nat} {g : Addr} {gd : FuncData} {x qual : Str} {st : Stmt} {N ps : List Str} {cl : List (Str × Addr)} {fr : List Str} {sp : List (Option V) → Sp}
theorem fnc_of (F : L2.Fun K x qual st g gd) (S : FnScope N ps (defScope st))
    (hbody : ∀ (cdv : Value) (A : Around) (outer : List Env) (s : Shared) (H : Hp) (vs : List V) (ws : List (Option V)) (Q : VK) (E : XK), Room k (A.deeper (envOfC qual (defScope st) s.heap.objs.size g cdv)) → CellsAt cl fr ws s.heap H → sp ws vs H Q E →
      ∃ t, PSs (cxOf CX0 P w K mg base N qual (defScope st) g cdv A outer s H E).nox (defBody st) t ∧ t { nx := fun _ H' => Q .non H', rt := Q } (start N vs) H) : FnC P w K mg base CX0 (k + 1) g gd ps cl fr sp := by
  obtain ⟨oc, od, kV, doc, pm, an, cdv, ct, osl, rfl, lk, hcd⟩ := F.ex
  constructor
  intro A outer s H args us vs ws Q E hr e0 hb r C hsp hl
  refine run_ofS lk hcd S hr e0 hb r hl fun hr' => ?_
  obtain ⟨t, ht, hq⟩ := hbody cdv A outer s H vs ws Q E hr' C hsp
  exact ⟨t, ht.nox, hq⟩
end
/-! ### the calls -/
def tHeld (i : Nat) (f : Addr) (F : NF) (body : Expr) (ws : List (Option V)) (sp : List (Option V) → Sp) (E : XK) (t : TA) : TE := fun σ H Q => σ[i]? = some (some (.ref f)) ∧ H f = some (LamO f F body) ∧
  t σ H fun vs H1 => H1 f = some (LamO f F body) ∧ H1 F.c = some (CodeO F.c F.qual) ∧ sp ws vs H1 Q E
theorem lam_fnAt {X : Cx} {pins : List (Addr × Obj)} {σ : L2.St} {H : Hp} {s : Shared} {f : Addr} {F : NF} {body : Expr} (I : Inv X pins σ H s) (e : H f = some (LamO f F body)) : PySem.W.FnAt f s.heap := by
  obtain ⟨pm, ctv, ho⟩ := lamO_at I.hok e
  exact ⟨_, _, _, _, ho⟩
section
variable {X : Cx} {CX : CXT} {i j k : Nat} {x : Str} {f : Addr} {F : NF} {body : Expr} {ps fr : List Str} {ws : List (Option V)} {sp : List (Option V) → Sp} {E : XK} {t : TA} {e : Expr} {es : List Expr} {p pos : Pos}
theorem pe_held (L : LOk X.prog X.w X.K X.mg X.base CX k f F body ps fr sp) (C : CellsAt F.cl fr ws X.s_0.heap X.H_0) (hex : X.ex = []) (hr : Room j X.A) (hk : k ≤ j) (hx : Passes CX X E) (hN : X.N[i]? = some x) (hv : Vis X.env.scope x)
    (ha : PA X (e :: es) t) (hd : (x == ("__debug__" : Str)) = false := by decide) (hcd : (x == ("__classdict__" : Str)) = false := by decide)
    (he : starEach (e :: es) X.env = (false, eval e X.env) :: starEach es X.env := by rfl) (hpl : (backTo pos (starEach es X.env)).any (·.1) = false := by rfl) :
    PE X (.Call (.Name x p) (e :: es) [] pos) (tHeld i f F body ws sp E t) := by
  constructor
  intro pins s σ H Q I h
  obtain ⟨hs, hf, ht⟩ := h
  refine wpAny_Call_Name_kw (thn ((pe_var (pos := p) hN hv hd hcd).run pins s σ H (fun v H1 => v = .ref f ∧ H1 = H) I ⟨.ref f, hs, rfl, rfl⟩) fun u s1 z => ?_)
  obtain ⟨v, H1, I1, r1, rfl, eH⟩ := z
  rw [eH] at I1
  cases (show u = Value.ref f from r1)
  refine PySem.W.callWith_F (first := []) (lam_fnAt I1 hf) (thn (ha.run pos pins s1 σ H _ I1 ht) fun us s2 z => ?_) he hpl
  obtain ⟨vs, H2, I2, r, h1, h2, q⟩ := z
  refine ⟨lam_fnAt I2 h1, ?_⟩
  refine wpAny_call (codeAny_mono (L.run X.A X.stack s2 H2 us vs ws Q E (hr.mono hk) I2.env0 h1 h2 (cells_later C hex I2) r q) fun r s' hq => ?_)
  cases r with
  | error e => exact hx pins σ H2 s2 e s' I2 hq
  | ok fl =>
    cases fl with
    | ret u => exact I2.after hq
    | next => exact hq.elim
    | brk => exact hq.elim
    | cont => exact hq.elim
/-- g(e, ..): a def of the text that is given a function which the running frame has made; js: where the captured names stand -/
def tCallC (js : List Nat) (sp : Addr → Addr → List (Option V) → Sp) (E : XK) (t : TA) : TE := fun σ H Q => t σ H fun vs H1 => ∃ f c', sp f c' (js.map (slotAt σ)) vs H1 Q E
theorem pe_callC {cl : List (Str × Addr)} {js : List Nat} {g : Addr} {gd : FuncData} {sp : Addr → Addr → List (Option V) → Sp} (G : ∀ f c', FnC X.prog X.w X.K X.mg X.base CX k g gd ps cl fr (sp f c')) (len : ∀ f c' ws vs H Q E, sp f c' ws vs H Q E → vs.length = ps.length) (cp : X.Ok → Caps X cl fr js) (hr : Room j X.A) (hk : k ≤ j)
    (hg : Gl X x) (hm : X.mg x = some (.ref g)) (hkp : PySem.W.keepIn X.K (.ref g) = true) (hb : Binds X.K gd ps []) (hx : Passes CX X E) (ha : PA X (e :: es) t) (hdb : (x == ("__debug__" : Str)) = false := by decide)
    (he : starEach (e :: es) X.env = (false, eval e X.env) :: starEach es X.env := by rfl) (hpl : (backTo pos (starEach es X.env)).any (·.1) = false := by rfl) :
    PE X (.Call (.Name x p) (e :: es) [] pos) (tCallC js sp E t) := by
  constructor
  intro pins s σ H Q I h
  refine wpAny_Call_Name_kw (ld_glob I hg hm ?_ hdb)
  refine PySem.W.callWith_K (h₀ := X.base) I.ok.mod.kin hkp (thn (ha.run pos pins s σ H _ I h) fun us s2 z => ?_) he hpl
  obtain ⟨vs, H2, I2, r, f0, c0, q⟩ := z
  refine ⟨I2.kIn, ?_⟩
  have hl := len _ _ _ _ _ _ _ q
  have bt : BindsTo s2 gd ⟨us, []⟩ (ps.zip us) := by
    have b := hb s2 us I2.kIn (by rw [List.append_nil, ← r.length]; exact hl)
    rw [List.append_nil] at b
    exact b
  refine wpAny_call (codeAny_mono ((G f0 c0).run X.A X.stack s2 H2 ⟨us, []⟩ us vs _ Q E (hr.mono hk) I2.env0 bt r (cells_of I2 (cp I2.ok)) q hl) fun r s' hq => ?_)
  cases r with
  | error e => exact hx pins σ H2 s2 e s' I2 hq
  | ok fl =>
    cases fl with
    | ret u => exact I2.after hq
    | next => exact hq.elim
    | brk => exact hq.elim
    | cont => exact hq.elim
end
/-! ### the lambda itself -/
def tLamE (T : List (Addr × Str)) (q : Str) (mk : Addr → NF) (body : Expr) : TE := fun _ H Q => Tabs T H ∧ ∀ (f c' : Addr) (H1 : Hp), ExtN H H1 → (∀ b, H1 b = none → H b = none) → Tabs T H1 → H f = none → H1 f = some (LamO f (mk c') body) → H1 c' = some (CodeO c' q) → Q (.ref f) H1
section
variable {X : Cx} {pins : List (Addr × Obj)} {σ : L2.St} {H : Hp} {s : Shared}
theorem lam_laid {F : NF} {body : Expr} {pm ctv : Value} {t' : Nat} (I : Inv X pins σ H s) :
    Inv X pins σ (upd H s.heap.objs.size (LamO s.heap.objs.size F body)) { s with heap := s.heap.push (PySem.W.kla_obj F.name F.qual F.params body F.scope F.cl pm F.c ctv), toks := t' } := by
  have e : (s.heap.push (PySem.W.kla_obj F.name F.qual F.params body F.scope F.cl pm F.c ctv)).get? s.heap.objs.size = some (PySem.W.kla_obj F.name F.qual F.params body F.scope F.cl pm F.c ctv) := Heap.get?_push_size _ rfl
  exact I.laid (a := s.heap.objs.size) (o := LamO s.heap.objs.size F body) (fun b u q => Heap.get?_push_of_some _ q) (Nat.le_refl _) ⟨⟨pm, ctv, e⟩, ⟨_, e⟩, fun h1 h2 ⟨a, b, z⟩ st => ⟨a, b, st _ z⟩⟩
theorem pe_lambda {T : List (Addr × Str)} {c P : Addr} {params : Arguments} {body : Expr} {scope : Scope} {pos : Pos} (TB : TabB X.base X.mg c P) (hcode : X.env.code = .ref c) (hm : (P, X.env.qual ++ "<lambda>") ∈ T)
    (hu : ∀ p ∈ T, p.1 = P → p.2 = X.env.qual ++ "<lambda>") (hdef : defaultsOf params X.env = ([], [])) (hfree : X.Ok → ∀ y ∈ scope.names, y.2 = .free → ∃ c, X.env.cells.lookup y.1 = some c) :
    PE X (.Lambda params body scope pos) (tLamE T (X.env.qual ++ "<lambda>") (fun c' => ⟨"<lambda>", X.env.qual ++ "<lambda>", params, [], scope, cloFrom X.env.cells scope.names [], c'⟩) body) := by
  constructor
  intro pins s σ H Q I hq
  obtain ⟨hT, h⟩ := hq
  obtain ⟨ps, hP, ht, ha⟩ := hT _ hm
  have bP : s.heap.BuiltinsAt X.mg P := TB.bm.keeps I.bk
  have hP' : s.heap.get? P = some { cls := .none, data := .fields ps } := I.hok P _ hP
  refine PySem.W.kla_eval hdef ?_
  rcases hc : codeAmong pos ps.toList with _ | cv
  · -- a new code object
    refine PySem.W.kla_makeFunction (mg := X.mg) (c := c) (P := P) (ps := ps) (closure_ok (hfree I.ok)) I.ok.glob (I.mod.glob.keeps I.bk) hcode (TB.code.keeps I.bk) hP' ht hc TB.gP bP fun c' ctv h' tk hx hge hlt hrec htb => ?_
    obtain ⟨c2, oc, vs, t, e2, hoc, hd, hv⟩ := hrec
    cases e2
    have nC : H c' = none := I.hok.fresh hge
    have nPC : P ≠ c' := ne_of_none hP nC
    have I1 : Inv X pins σ (upd (upd H P (.tbl (ps ++ #[rawInt pos.line, rawInt pos.col, .ref c']))) c' (CodeO c' (X.env.qual ++ "<lambda>"))) { s with heap := h', toks := tk } :=
      inv_table I hP (fun b o hb e => hx b o hb e) htb hge ⟨oc, vs, t, hoc, hd, hv⟩
    have nF : upd (upd H P (.tbl (ps ++ #[rawInt pos.line, rawInt pos.col, .ref c']))) c' (CodeO c' (X.env.qual ++ "<lambda>")) h'.objs.size = none := I1.hok.fresh (Nat.le_refl _)
    have I2 := lam_laid (F := ⟨"<lambda>", X.env.qual ++ "<lambda>", params, [], scope, cloFrom X.env.cells scope.names [], c'⟩) (body := body) (pm := (X.mg "__name__").getD .none) (ctv := ctv) (t' := tk) I1
    have nF0 : H h'.objs.size = none := upd_none (upd_none nF)
    have old : ∀ b o, H b = some o → (∀ q, o ≠ .tbl q) → upd (upd (upd H P (.tbl (ps ++ #[rawInt pos.line, rawInt pos.col, .ref c']))) c' (CodeO c' (X.env.qual ++ "<lambda>"))) h'.objs.size (LamO h'.objs.size ⟨"<lambda>", X.env.qual ++ "<lambda>", params, [], scope, cloFrom X.env.cells scope.names [], c'⟩ body) b = some o := fun b o e n => by
      rw [upd_ne (ne_of_none e nF0), upd_ne (ne_of_none e nC), upd_ne (fun z => n ps (Option.some.inj (e.symm.trans (by rw [z]; exact hP))))]
      exact e
    have atC : upd (upd (upd H P (.tbl (ps ++ #[rawInt pos.line, rawInt pos.col, .ref c']))) c' (CodeO c' (X.env.qual ++ "<lambda>"))) h'.objs.size (LamO h'.objs.size ⟨"<lambda>", X.env.qual ++ "<lambda>", params, [], scope, cloFrom X.env.cells scope.names [], c'⟩ body) c' = some (CodeO c' (X.env.qual ++ "<lambda>")) := by
      rw [upd_ne (ne_of_none upd_same nF), upd_same]
    refine ⟨.ref h'.objs.size, _, I2, rfl, h h'.objs.size c' _ old (fun b e => upd_none (upd_none (upd_none e))) (fun p hp => ?_) nF0 upd_same atC⟩
    by_cases hb : p.1 = P
    · rw [hu p hp hb, hb]
      have eL : (ps ++ #[rawInt pos.line, rawInt pos.col, .ref c']).toList = ps.toList ++ [rawInt pos.line, rawInt pos.col, .ref c'] := by simp
      refine ⟨ps ++ #[rawInt pos.line, rawInt pos.col, .ref c'], ?_, by rw [eL]; exact PySem.TriplesOk_snoc _ _ _ _ ht, fun p' cv q => ?_⟩
      · have atP : upd (upd H P (.tbl (ps ++ #[rawInt pos.line, rawInt pos.col, .ref c']))) c' (CodeO c' (X.env.qual ++ "<lambda>")) P = some (.tbl (ps ++ #[rawInt pos.line, rawInt pos.col, .ref c'])) := by rw [upd_ne nPC, upd_same]
        exact (upd_ne (ne_of_none atP nF)).trans atP
      · rw [eL] at q
        rcases among_app _ ht q with q | q
        · obtain ⟨c0, e1, e3⟩ := ha p' cv q
          exact ⟨c0, e1, old _ _ e3 codeO_ne⟩
        · exact ⟨c', q, atC⟩
    · obtain ⟨ps', a1, a2, a3⟩ := hT p hp
      refine ⟨ps', ?_, a2, fun p' cv q => ?_⟩
      · rw [upd_ne (ne_of_none a1 nF0), upd_ne (ne_of_none a1 nC), upd_ne hb]
        exact a1
      · obtain ⟨c0, e1, e3⟩ := a3 p' cv q
        exact ⟨c0, e1, old _ _ e3 codeO_ne⟩
  · -- the code object stands in the table
    obtain ⟨c', e, hco⟩ := ha pos cv hc
    subst e
    refine PySem.W.kla_makeFunctionHit (mg := X.mg) (c := c) (P := P) (ps := ps) (closure_ok (hfree I.ok)) I.ok.glob (I.mod.glob.keeps I.bk) hcode (TB.code.keeps I.bk) hP' ht hc bP fun ctv h' tk hx hsz => ?_
    have I1 : Inv X pins σ H { s with heap := h', toks := tk } := I.kept hx
    have nF : H h'.objs.size = none := I1.hok.fresh (Nat.le_refl _)
    have I2 := lam_laid (F := ⟨"<lambda>", X.env.qual ++ "<lambda>", params, [], scope, cloFrom X.env.cells scope.names [], c'⟩) (body := body) (pm := (X.mg "__name__").getD .none) (ctv := ctv) (t' := tk) I1
    have sm : ∀ b o, H b = some o → upd H h'.objs.size (LamO h'.objs.size ⟨"<lambda>", X.env.qual ++ "<lambda>", params, [], scope, cloFrom X.env.cells scope.names [], c'⟩ body) b = some o := fun b o q => by
      rw [upd_ne (ne_of_none q nF)]
      exact q
    exact ⟨.ref h'.objs.size, _, I2, rfl, h h'.objs.size c' _ (ExtN.of sm) (fun b q => upd_none q) (hT.ext sm) nF upd_same (sm _ _ hco)⟩
end
end Clo

set_option Elab.async false
set_option linter.all false
set_option maxRecDepth 100000
set_option maxHeartbeats 1000000
/-! defs that show data as texts: what stands around them shows nothing; the end of a law that does so -/
namespace Grd
open PySem PySem.Spec PyProof.Rows L2 LamX NdefX Clo
section
variable {X : Cx}
theorem call_repr (hg : X.A.guards = some []) (hu : X.A.units + 100 < cLine) : CallR X (.builtin "repr") (fun xs H Q => ∃ (a : Addr) (d : PyData), xs = [.ref a] ∧ Dp X.K H (.ref a) d ∧ d.showable = true ∧ d.hasDict = false ∧ d.depth ≤ 64 ∧ d.shown.length ≤ sizeLine ∧ Q (.str d.shown) H) := by
  intro pins s σ H xs us Q I r h
  obtain ⟨a, d, rfl, hd, h1, h2, h3, h4, q⟩ := h
  obtain ⟨u, rfl, rx⟩ := vals1 r
  cases (show u = Value.ref a from rx)
  obtain ⟨as, rd⟩ := Dp.reads I d (.ref a) (.ref a) hd rfl
  exact repr_of_reads' rd h1 (PyData.noDict_hsm h2) hg (by omega) (fun _ _ e => e) (fun h' u tk hk => ⟨.str d.shown, H, I.kept (t' := tk) hk, ⟨u, rfl⟩, q⟩) h4
end
structure FnG (P : Program) (w : World) (K : PySem.W.Frag) (mg : Str → Option Value) (base : Heap) (CX : CXT) (k : Nat) (f : Addr) (fd : FuncData) (ps : List Str) (sp : Sp) : Prop where
  len : ∀ vs H Q E, sp vs H Q E → vs.length = ps.length
  run : ∀ (A : Around) (outer : List Env) (s : Shared) (H : Hp) (args : Args) (us : List Value) (vs : List V) (Q : VK) (E : XK), Room k A → A.guards = some [] → Env0 P w K mg base A outer s H → BindsTo s fd args (ps.zip us) → Vals vs us → sp vs H Q E →
    codeAny (model P w) A (.call (.ref f) args) (CR CX outer P w H s Q E) s
section
variable {P : Program} {w : World} {K : PySem.W.Frag} {mg : Str → Option Value} {base : Heap} {k : Nat} {g : Addr} {gd : FuncData} {x qual : Str} {st : Stmt} {N ps : List Str} {sp : Sp}
theorem fng_of (F : L2.Fun K x qual st g gd) (S : FnScope N ps (defScope st)) (len : ∀ vs H Q E, sp vs H Q E → vs.length = ps.length)
    (hbody : ∀ (cdv : Value) (A : Around) (outer : List Env) (s : Shared) (H : Hp) (vs : List V) (Q : VK) (E : XK), Room k (A.deeper (envOfC qual (defScope st) s.heap.objs.size g cdv)) → (A.deeper (envOfC qual (defScope st) s.heap.objs.size g cdv)).guards = some [] → sp vs H Q E →
      ∃ t, PSs (cxOf CX0 P w K mg base N qual (defScope st) g cdv A outer s H E).nox (defBody st) t ∧ t { nx := fun _ H' => Q .non H', rt := Q } (start N vs) H) : FnG P w K mg base CX0 (k + 1) g gd ps sp := by
  obtain ⟨oc, od, kV, doc, pm, an, cdv, ct, osl, rfl, lk, hcd⟩ := F.ex
  constructor
  · exact len
  intro A outer s H args us vs Q E hr hg e0 hb r hsp
  refine run_ofS lk hcd S hr e0 hb r (len _ _ _ _ hsp) fun hr' => ?_
  obtain ⟨t, ht, hq⟩ := hbody cdv A outer s H vs Q E hr' hg hsp
  exact ⟨t, ht.nox, hq⟩
end
section
variable {X : Cx} {CX : CXT} {j k : Nat} {x : Str} {ps : List Str} {sp : Sp} {E : XK} {t : TA} {e : Expr} {es : List Expr} {p pos : Pos} {g : Addr} {gd : FuncData}
theorem pe_callG (G : FnG X.prog X.w X.K X.mg X.base CX k g gd ps sp) (hr : Room j X.A) (hk : k ≤ j) (hgd : X.A.guards = some [])
    (hg : Gl X x) (hm : X.mg x = some (.ref g)) (hkp : PySem.W.keepIn X.K (.ref g) = true) (hb : Binds X.K gd ps []) (hx : Passes CX X E) (ha : PA X (e :: es) t) (hdb : (x == ("__debug__" : Str)) = false := by decide)
    (he : starEach (e :: es) X.env = (false, eval e X.env) :: starEach es X.env := by rfl) (hpl : (backTo pos (starEach es X.env)).any (·.1) = false := by rfl) :
    PE X (.Call (.Name x p) (e :: es) [] pos) (tCall sp [] E t) := by
  constructor
  intro pins s σ H Q I h
  refine wpAny_Call_Name_kw (ld_glob I hg hm ?_ hdb)
  refine PySem.W.callWith_K (h₀ := X.base) I.ok.mod.kin hkp (thn (ha.run pos pins s σ H _ I h) fun us s2 z => ?_) he hpl
  obtain ⟨vs, H2, I2, r, q⟩ := z
  have q : sp vs H2 Q E := by
    have q' : sp (vs ++ []) H2 Q E := q
    rw [List.append_nil] at q'
    exact q'
  refine ⟨I2.kIn, ?_⟩
  have hl := G.len _ _ _ _ q
  have bt : BindsTo s2 gd ⟨us, []⟩ (ps.zip us) := by
    have b := hb s2 us I2.kIn (by rw [List.append_nil, ← r.length]; exact hl)
    rw [List.append_nil] at b
    exact b
  refine wpAny_call (codeAny_mono (G.run X.A X.stack s2 H2 ⟨us, []⟩ us vs Q E (hr.mono hk) hgd I2.env0 bt r q) fun r s' hq => ?_)
  cases r with
  | error e => exact hx pins σ H2 s2 e s' I2 hq
  | ok fl =>
    cases fl with
    | ret u => exact I2.after hq
    | next => exact hq.elim
    | brk => exact hq.elim
    | cont => exact hq.elim
end
end Grd

set_option Elab.async false
set_option linter.all false
set_option maxRecDepth 100000
set_option maxHeartbeats 1000000
namespace Dat
open PySem PySem.Spec PyProof.Rows L2
/-! ### rules of my own for the derivations -/
section
variable {X : Cx} {CX : CXT} {k : Nat} {f : Addr} {fd : FuncData} {ps ks : List Str} {sp : Sp} {E : XK} {x : Str} {p pos : Pos} {kws : List Keyword} {tk : TA} {g : List Value → List Value → List Value} {gV : List V → List V → List V}
/-- a call with keywords alone -/
theorem pe_callN0 (F : FnOk X.prog X.w X.K X.mg X.base CX k f fd ps sp) (hr : Room k X.A) (hg : Gl X x) (hm : X.mg x = some (.ref f)) (hk : PySem.W.keepIn X.K (.ref f) = true) (hb : KBn X.K fd ps 0 ks g gV) (hx : Passes CX X E)
    (hkw : PK X kws tk) (hall : (backToKw pos (keywordEach kws X.env)).all (·.1.isSome) = true := by rfl) (hks : (backToKw pos (keywordEach kws X.env)).filterMap (·.1) = ks := by rfl)
    (hdb : (x == ("__debug__" : Str)) = false := by decide)
    (hpl : ((backTo pos (starEach [] X.env)).any (·.1) || (backToKw pos (keywordEach kws X.env)).any (·.1.isNone)) = false := by rfl) :
    PE X (.Call (.Name x p) [] kws pos) (tCallN 0 ks.length sp gV E tNil tk) := by
  refine ⟨fun pins s σ H Q I h => ?_⟩
  refine wpAny_Call_Name_kw (ld_glob I hg hm ?_ hdb)
  refine PySem.W.callWith_KW0 (h₀ := X.base) I.ok.mod.kin hk hall ?_ hpl
  refine thn (hkw.run pos pins s σ H _ I h) fun ws s2 ⟨zs, H2, I2, rz, l1, l2, q2⟩ => ⟨I2.kIn, ?_⟩
  rw [hks]
  exact run_fnN F hr hb hx I2 .nil rz rfl l2 q2
end
theorem pe_tupleK {X : Cx} {K : PySem.W.Frag} [Tb K] {a : Expr} {ta : TE} {p pos : Pos} (hK : X.K = K) (hg : Gl X "tuple") (hm : X.mg "tuple" = none) (ha : PE X a ta) (na : starEach [a] X.env = (false, eval a X.env) :: starEach [] X.env := by rfl) :
    PE X (.Call (.Name "tuple" p) [a] [] pos) (tThen ta (kTup K)) := by
  subst hK
  exact pe_tupleOf hg hm ha na
/-- a statement that is never reached -/
theorem ps_dead {X : Cx} {st : Stmt} : PS X st (fun _ _ _ => False) := ⟨fun _ _ _ _ _ _ h => h.elim⟩
structure DefAt (K : PySem.W.Frag) (mg : Str → Option Value) (x : Str) (st : Stmt) (ps : List Str) (ds : List Value) (f : Addr) (fd : FuncData) : Prop where
  F : L2.Fun K x x st f fd
  g : mg x = some (.ref f)
  b : Binds K fd ps ds
theorem hu64 {A : Around} {k : Nat} (hr : Room k A) : A.units + 64 < cLine := by
  have := hr.un
  omega
theorem hu100 {A : Around} {k : Nat} (hr : Room k A) : A.units + 100 < cLine := by
  have := hr.un
  omega
theorem bt_len : bootBuiltins "len" = some (.builtin "len") := by decide +kernel
theorem bt_isinstance : bootBuiltins "isinstance" = some (.builtin "isinstance") := by decide +kernel
theorem bt_abs : bootBuiltins "abs" = some (.builtin "abs") := by decide +kernel
theorem bt_all : bootBuiltins "all" = some (.builtin "all") := by decide +kernel
theorem bt_any : bootBuiltins "any" = some (.builtin "any") := by decide +kernel
theorem bt_sum : bootBuiltins "sum" = some (.builtin "sum") := by decide +kernel
theorem bt_max : bootBuiltins "max" = some (.builtin "max") := by decide +kernel
theorem bt_min : bootBuiltins "min" = some (.builtin "min") := by decide +kernel
theorem bt_sorted : bootBuiltins "sorted" = some (.builtin "sorted") := by decide +kernel
theorem bt_repr : bootBuiltins "repr" = some (.builtin "repr") := by decide +kernel
theorem bt_int : bootBuiltins "int" = some (.type "int") := by decide +kernel
theorem bt_bool : bootBuiltins "bool" = some (.type "bool") := by decide +kernel
theorem bt_tuple : bootBuiltins "tuple" = some (.type "tuple") := by decide +kernel
theorem bt_list : bootBuiltins "list" = some (.type "list") := by decide +kernel
theorem bt_str : bootBuiltins "str" = some (.type "str") := by decide +kernel
theorem bt_set : bootBuiltins "set" = some (.type "set") := by decide +kernel
theorem bt_range : bootBuiltins "range" = some (.type "range") := by decide +kernel
theorem bt_enumerate : bootBuiltins "enumerate" = some (.type "enumerate") := by decide +kernel
theorem bt_zip : bootBuiltins "zip" = some (.type "zip") := by decide +kernel
/-! ### defs that show data as texts -/
section
variable {P : Program} {w : World} {K : PySem.W.Frag} [Tb K] {mg : Str → Option Value} {base : Heap}
theorem fngA_ok {x qual : Str} {st : Stmt} {f : Addr} {fd : FuncData} {N ps : List Str} {k : Nat} {sp : ASp} (F : L2.Fun K x qual st f fd) (S : FnScope N ps (defScope st)) (len : ∀ as Ω P, sp as Ω P → as.length = ps.length)
    (hbody : ∀ (cdv : Value) (A : Around) (outer : List Env) (s : Shared) (H : Hp) (E : XK), Room k (A.deeper (envOfC qual (defScope st) s.heap.objs.size f cdv)) → (A.deeper (envOfC qual (defScope st) s.heap.objs.size f cdv)).guards = some [] →
      ∃ t, PSs (cxOf CX0 P w K mg base N qual (defScope st) f cdv A outer s H E).nox (defBody st) t ∧ ∀ as Ω P, sp as Ω P → SW K t (as.map some ++ List.replicate (N.length - as.length) none) Ω { nx := fun _ Ω' => P (.dat .none) Ω', rt := P }) :
    Grd.FnG P w K mg base CX0 (k + 1) f fd ps (spA K sp) := by
  refine Grd.fng_of F S (spA_len len) fun cdv A outer s H vs Q E hr hg h => ?_
  obtain ⟨t, ht, hs⟩ := hbody cdv A outer s H E hr hg
  obtain ⟨F0, Ω, as, P, k0, va, h, hq⟩ := h
  refine ⟨t, ht, hs as Ω P h F0 (L2.start N vs) H _ ⟨k0.fr, k0.st, ?_, k0.tb, k0.ob⟩ ⟨fun Γ' σ' Ω' H' hp k' => hq _ _ _ _ hp k'.bare (.dat .non), fun a v Ω' H' hp k' hv => hq _ _ _ _ hp k' hv, fun _ _ _ _ z => z.elim, fun _ _ _ _ z => z.elim⟩⟩
  unfold L2.start
  rw [va.length]
  exact Slots.start (N := N) va _
end
end Dat

set_option Elab.async false
set_option linter.all false
set_option maxRecDepth 100000
set_option maxHeartbeats 1000000
namespace PySem.SeqAt
open AutoSeq1 (wpAny_loadPart')
open MeetsSeq
theorem str_eq_declines_dict (b : Str) (u : Tok) (l : Addr) (es : Array DictEntry) (n : Nat) (dd : Option Addr) (sl : Array (Option Value)) :
    Meets (Builtin.«str.__eq__» ⟨[.str b u, .ref l], []⟩) (fun _ R s => s.heap.get? l = some { cls := .type "dict", dict := dd, data := .dict es n, slots := sl } ∧ R (.ok (.ret .notImplemented)) s) :=
  .of_wp fun prog w A R s h => by obtain ⟨hp, g, d, tk, os⟩ := s; obtain ⟨hl, h⟩ := h; wp_walk using wpAny_loadPart' hl, wpAny_load hl; exact ⟨_, rfl, h⟩
theorem dict_eq_declines_str (l : Addr) (es : Array DictEntry) (n : Nat) (dd : Option Addr) (sl : Array (Option Value)) (b : Str) (u : Tok) :
    Meets (Builtin.«dict.__eq__» ⟨[.ref l, .str b u], []⟩) (fun _ R s => s.heap.get? l = some { cls := .type "dict", dict := dd, data := .dict es n, slots := sl } ∧ R (.ok (.ret .notImplemented)) s) :=
  .of_wp fun prog w A R s h => by obtain ⟨hp, g, d, tk, os⟩ := s; obtain ⟨hl, h⟩ := h; have f1 := F.sub_str_dict; wp_walk using wpAny_loadPart' hl, wpAny_load hl; exact ⟨_, rfl, h⟩
section
variable {A : Around} {s : Shared}
theorem EqAt.str_dict {l : Addr} {o : Obj} {es : Array DictEntry} {n : Nat} (b : Str) (u : Tok) (h0 : s.heap.get? l = some o) (hc : o.cls = .type "dict") (hd : o.data = .dict es n) (hu : A.units < cLine) : EqAt A s (.str b u) (.ref l) false := fun prog w E Q h => by
  obtain ⟨cls, dd, data, sl⟩ := o
  simp only at hc hd
  subst hc hd
  unfold eqBool
  refine wpAny_holding ?_
  refine wpAny_ite_split (fun hab => absurd (eq_of_beq hab) nofun) (fun _ => ?_)
  refine wpAny_bind (rc_eq_decline_or (k := false) (typeIs_str s b u) ⟨_, h0, rfl⟩ (by decide) F.sub_dict_str F.slot_str_eq F.slot_dict_eq_refl
    (fun _ hq => call_meets F.slot_str_eq (typeIs_str s b u) F.entry_str_eq (F.args_str_eq_2 _ _) (str_eq_declines_dict b u l es n dd sl) ⟨h0, hq⟩)
    (fun _ hq => call_meets F.slot_dict_eq_refl ⟨_, h0, rfl⟩ F.entry_dict_eq (F.args_dict_eq_2 _ _) (dict_eq_declines_str l es n dd sl b u) ⟨h0, hq⟩)
    (fun _ hq => wpAny_of_eq (rfl : isSame (.str b u) (.ref l) = pure false) hq) (.inr hu) (wpAny_truthy_bool h))
end
end PySem.SeqAt
namespace Dat
open PySem PySem.Spec PyProof.Rows L2
def isStr (w : Str) : PyData → Bool
  | .str x => w == x
  | _ => false
section
variable {X : Cx} {pins : List (Addr × Obj)} {σ : L2.St} {H : Hp} {s : Shared}
theorem dict_at (I : Inv X pins σ H s) {a : Addr} (h : H a = some (.dK [])) : (a == sysModules) = false ∧ ∃ o n, s.heap.get? a = some o ∧ o.cls = .type "dict" ∧ o.data = .dict #[] n := by
  obtain ⟨_, h1, vs, kv, o, es, ep, e1, e2, e3, e4⟩ := dk_of I.hok h
  have hv : vs = [] := by
    cases kv
    rfl
  subst hv
  refine ⟨h1, o, ep, e1, e2.1, ?_⟩
  rw [e3]
  have : es.size = 0 := by
    have := e4.2.1.length
    simpa using this
  rw [Array.eq_empty_of_size_eq_zero this]
theorem str_at (I : Inv X pins σ H s) {A : Around} (hu : A.units < cLine) {v : V} {u : Value} {d : PyData} (h : Dq X.K H v d) (r : RelV v u) (w : Str) (t : Tok) : SeqAt.EqAt A s (.str w t) u (isStr w d) := by
  cases h with
  | non => cases r; exact SeqAt.EqAt.str_none w t
  | bl b => cases r; exact SeqAt.EqAt.str_bool w t b
  | int i => obtain ⟨t', rfl⟩ := r; exact SeqAt.EqAt.str_int w t i t'
  | str x => obtain ⟨t', rfl⟩ := r; exact SeqAt.EqAt.str_str w t x t'
  | lst h _ =>
    cases r
    obtain ⟨its, rv, p, _⟩ := I.list (SqL.of h)
    exact SeqAt.EqAt.str_list w t p.isList hu
  | tup h _ =>
    cases r
    obtain ⟨its, rv, p, _⟩ := I.tuple h
    exact SeqAt.EqAt.str_tuple w t p hu
  | dct h =>
    cases r
    obtain ⟨_, o, n, e1, e2, e3⟩ := dict_at I h
    exact SeqAt.EqAt.str_dict w t e1 e2 e3 hu
def isStrU (d : PyData) (u : Value) : Bool := match u with
  | .str w _ => isStr w d
  | _ => false
theorem any_str {d : PyData} : ∀ {ws : List Str} {us : List Value}, Vals (ws.map V.str) us → us.any (isStrU d) = ws.any fun w => isStr w d
  | [], _, h => by cases h; rfl
  | w :: r, _, h => by
    rw [List.map_cons] at h
    cases h with | cons r1 r2 =>
      obtain ⟨t, rfl⟩ := r1
      rw [List.any_cons, List.any_cons, any_str r2]
      rfl
theorem mem_str (I : Inv X pins σ H s) {A : Around} (hu : A.units < cLine) {v : V} {u : Value} {d : PyData} (h : Dq X.K H v d) (r : RelV v u) : ∀ {ws : List Str} {us : List Value}, Vals (ws.map V.str) us → ∀ y ∈ us, SeqAt.EqAt A s y u (isStrU d y)
  | [], _, g, y, hy => by cases g; cases hy
  | w :: ws, _, g, y, hy => by
    rw [List.map_cons] at g
    cases g with | cons r1 r2 =>
      obtain ⟨t, rfl⟩ := r1
      rcases List.mem_cons.mp hy with rfl | hy
      · exact str_at I hu h r w t
      · exact mem_str I hu h r r2 y hy
/-- any datum in a tuple of texts -/
def rInStr (K : PySem.W.Frag) : R2 := fun x y H Q => ∃ (p : Addr) (ws : List Str) (d : PyData), y = .ref p ∧ SqT K H p (ws.map V.str) ∧ Dq K H x d ∧ Q (.bl (ws.any fun w => isStr w d)) H
theorem op_inStr {X : Cx} (hu : X.A.units + 64 < cLine) : OpR X (compareOp .In) (rInStr X.K) := by
  intro pins s σ H x y v u Q I rx ry h
  obtain ⟨p, ws, d, rfl, hq, hd, q⟩ := h
  cases ry
  obtain ⟨its, r, tp, hz⟩ := I.tuple hq
  refine SeqAt.in_tupleAt (isStrU d) (show s.heap.IsTuple p its.toArray from tp) (fun z hz' => mem_str I (by show X.A.units + 1 < cLine; omega) hd rx r z (by simpa using hz')) ⟨.bl _, H, I, rfl, ?_⟩
  rw [show its.toArray.any (isStrU d) = its.any (isStrU d) by simp, any_str r]
  exact q
theorem r_inStr {K : PySem.W.Frag} [Tb K] {Ω : AH} {P : Av → AH → Prop} {d : PyData} {ws : List Str} (h : P (.dat (.bool (ws.any fun w => isStr w d))) Ω) : R2W K (rInStr K) (.dat d) (.dat (.tuple (ws.map PyData.str))) Ω P := fun F H x y Q k hx hy q => by
  cases hx with | dat hx => cases hy with | dat hy => cases hy with | tup hs g =>
    have e : ∀ {ws : List Str} {vs : List V}, DqAll K (Fz Ω H) vs (ws.map PyData.str) → vs = ws.map V.str := by
      intro ws
      induction ws with
      | nil => intro vs g; cases g; rfl
      | cons w r ih =>
        intro vs g
        rw [List.map_cons] at g
        cases g with | cons h g =>
          cases h
          rw [ih g, List.map_cons]
    rw [e g] at hs
    exact ⟨_, ws, d, rfl, sqT_same Fz_le hs, hx.same Fz_le, q _ _ _ _ h k (.dat (.bl _))⟩
/-! ### repr -/
mutual
def noList : PyData → Bool
  | .list _ => false
  | .tuple ds => noListAll ds
  | _ => true
def noListAll : List PyData → Bool
  | [] => true
  | d :: r => noList d && noListAll r
end
mutual
theorem Dq.reads (I : Inv X pins σ H s) : ∀ (d : PyData) (v : V) (u : Value), Dq X.K H v d → RelV v u → ∃ as, Reads s.heap u d as ∧ (noList d = true → sysModules ∉ as)
  | .none, _, _, h, r => by
    cases h
    cases r
    exact ⟨_, Reads.none, fun _ => nofun⟩
  | .bool b, _, _, h, r => by
    cases h
    cases r
    exact ⟨_, Reads.bool b, fun _ => nofun⟩
  | .int i, _, _, h, r => by
    cases h
    obtain ⟨t, rfl⟩ := r
    exact ⟨_, Reads.int i t, fun _ => nofun⟩
  | .str x, _, _, h, r => by
    cases h
    obtain ⟨t, rfl⟩ := r
    exact ⟨_, Reads.str x t, fun _ => nofun⟩
  | .list ds, _, _, h, r => by
    cases h with
    | lst hs ha =>
      cases r
      obtain ⟨its, rv, ⟨o, n, ho, hc, _, hd⟩, _⟩ := I.list (SqL.of hs)
      obtain ⟨as, hr, _⟩ := Dq.readsAll I ds _ its ha rv
      exact ⟨_, Reads.list ho hc hd hr, fun z => by simp [noList] at z⟩
  | .tuple ds, _, _, h, r => by
    cases h with
    | tup hs ha =>
      cases r
      obtain ⟨its, rv, ⟨o, ho, hc, n, hd⟩, _⟩ := I.tuple hs
      obtain ⟨as, hr, hn⟩ := Dq.readsAll I ds _ its ha rv
      exact ⟨_, Reads.tuple ho hc hd hr, fun z => hn (by simpa [noList] using z)⟩
  | .dict kvs, _, _, h, r => by
    cases h with
    | dct h =>
      cases r
      obtain ⟨h1, o, n, e1, e2, e3⟩ := dict_at I h
      refine ⟨_, Reads.dict (kvs := []) (as := []) (bs := []) e1 e2 e3 (by exact ReadsAll.nil) (by exact ReadsAll.nil), fun _ m => ?_⟩
      simp at m
      rw [m] at h1
      simp at h1
theorem Dq.readsAll (I : Inv X pins σ H s) : ∀ (ds : List PyData) (vs : List V) (us : List Value), DqAll X.K H vs ds → Vals vs us → ∃ as, ReadsAll s.heap us ds as ∧ (noListAll ds = true → sysModules ∉ as)
  | [], _, _, h, r => by
    cases h
    cases r
    exact ⟨_, ReadsAll.nil, fun _ => nofun⟩
  | d :: ds, _, _, h, r => by
    cases h with
    | cons h1 h2 =>
      cases r with
      | cons r1 r2 =>
        obtain ⟨as, q1, n1⟩ := Dq.reads I d _ _ h1 r1
        obtain ⟨bs, q2, n2⟩ := Dq.readsAll I ds _ _ h2 r2
        refine ⟨_, ReadsAll.cons q1 q2, fun z => ?_⟩
        rw [noListAll, Bool.and_eq_true] at z
        intro m
        rcases List.mem_append.mp m with m | m
        · exact n1 z.1 m
        · exact n2 z.2 m
end
end
def Shown (d : PyData) : Prop := d.showable = true ∧ (d.hasDict = true → noList d = true) ∧ d.depth ≤ 64 ∧ d.shown.length ≤ sizeLine
def rReprQ (K : PySem.W.Frag) : List V → Hp → VK → Prop := fun xs H Q => ∃ (v : V) (d : PyData), xs = [v] ∧ Dq K H v d ∧ Shown d ∧ Q (.str d.shown) H
theorem cl_repr {X : Cx} (hg : X.A.guards = some []) (hu : X.A.units + 100 < cLine) : CallR X (.builtin "repr") (rReprQ X.K) := by
  intro pins s σ H xs us Q I r h
  obtain ⟨v, d, rfl, hd, ⟨h1, h2, h3, h4⟩, q⟩ := h
  obtain ⟨u, rfl, rx⟩ := vals1 r
  have ref : ∀ a, v = .ref a → u = .ref a → wpAny (model X.prog X.w) X.A (call (.builtin "repr") [u]) (EP X pins σ Q) X.xe s := fun a ev eu => by
    subst ev eu
    obtain ⟨as, rd, hn⟩ := Dq.reads I d (.ref a) (.ref a) hd rfl
    exact repr_of_reads' rd h1 (fun z => hn (h2 z)) hg (by omega) (fun _ _ e => e) (fun h' u tk hk => ⟨.str d.shown, H, I.kept (t' := tk) hk, ⟨u, rfl⟩, q⟩) h4
  cases hd with
  | non =>
    cases rx
    exact PySem.P.repr_of_none ⟨.str "None", H, I.tok _, ⟨_, rfl⟩, by simpa [PyData.shown] using q⟩
  | bl b =>
    cases rx
    exact PySem.P.repr_of_bool ⟨.str (if b then "True" else "False"), H, I.tok _, ⟨_, rfl⟩, by simpa [PyData.shown] using q⟩
  | int i =>
    obtain ⟨t, rfl⟩ := rx
    exact PySem.P.repr_of_int (by simpa [PyData.showable] using h1) ⟨.str (toString i), H, I.tok _, ⟨_, rfl⟩, by simpa [PyData.shown] using q⟩
  | str x =>
    obtain ⟨t, rfl⟩ := rx
    exact PySem.P.repr_of_str ⟨.str (reprText x), H, I.tok _, ⟨_, rfl⟩, by simpa [PyData.shown] using q⟩ (by simpa [PyData.shown] using h4)
  | lst h g => exact ref _ rfl rx
  | tup h g => exact ref _ rfl rx
  | dct h => exact ref _ rfl rx
theorem c_repr {K : PySem.W.Frag} [Tb K] {Ω : AH} {P : Av → AH → Prop} {d : PyData} (s : Shown d) (h : P (.dat (.str d.shown)) Ω) : RCW K (rReprQ K) [.dat d] Ω P := fun F H xs Q k hx q => by
  cases hx with | cons hx g => cases g; cases hx with | dat hx =>
    exact ⟨_, d, rfl, hx.same Fz_le, s, q _ _ _ _ h k (.dat (.str _))⟩
/-! ### short words -/
inductive Dats : List Av → List PyData → Prop
  | nil : Dats [] []
  | cons {d : PyData} {as : List Av} {ds : List PyData} (h : Dats as ds) : Dats (.dat d :: as) (d :: ds)
theorem Dats.eq {as : List Av} {ds : List PyData} (h : Dats as ds) : as = ds.map .dat := by
  induction h with
  | nil => rfl
  | cons h ih => rw [ih, List.map_cons]
theorem dats_map {α : Type} {f : α → PyData} : ∀ {xs : List α}, Dats (xs.map fun x => .dat (f x)) (xs.map f)
  | [] => .nil
  | _ :: _ => .cons dats_map
section
variable {K : PySem.W.Frag} [Tb K] {Γ : List (Option Av)} {Ω : AH} {P : Av → AH → Prop} {te : TE} {tl : TA}
theorem e_tupD (h : AW K tl Γ Ω fun as Ω1 => ∃ ds, Dats as ds ∧ Nat.ble ds.length 100000 = true ∧ P (.dat (.tuple ds)) Ω1) : EW K (tTup tl) Γ Ω P :=
  e_tup fun F σ H Q k q => h F σ H Q k fun as vs Ω1 H1 ⟨ds, e, l, hp⟩ => q as vs Ω1 H1 ⟨ds, e.eq, Nat.le_of_ble_eq_true l, hp⟩
theorem e_lstD (h : AW K tl Γ Ω fun as Ω1 => ∃ ds, Dats as ds ∧ Nat.ble ds.length 100000 = true ∧ P (.dat (.list ds)) Ω1) : EW K (tLst tl) Γ Ω P :=
  e_lst fun F σ H Q k q => h F σ H Q k fun as vs Ω1 H1 ⟨ds, e, l, hp⟩ => q as vs Ω1 H1 ⟨ds, e.eq, Nat.le_of_ble_eq_true l, hp⟩
theorem c_allM {α : Type} {xs : List α} {p : α → Bool} (h : P (.dat (.bool (xs.all p))) Ω) : RCW K (rAll K) [.dat (.list (xs.map fun x => .bool (p x)))] Ω P := by
  have e : xs.map (fun x => PyData.bool (p x)) = (xs.map p).map PyData.bool := by
    rw [List.map_map]
    rfl
  rw [e]
  refine c_all ?_
  rw [List.all_map]
  exact h
theorem c_anyM {α : Type} {xs : List α} {p : α → Bool} (h : P (.dat (.bool (xs.any p))) Ω) : RCW K (rAny K) [.dat (.list (xs.map fun x => .bool (p x)))] Ω P := by
  have e : xs.map (fun x => PyData.bool (p x)) = (xs.map p).map PyData.bool := by
    rw [List.map_map]
    rfl
  rw [e]
  refine c_any ?_
  rw [List.any_map]
  exact h
theorem atI_nat' {α : Type} {xs : List α} {i : Nat} {a : α} (h : xs[i]? = some a) : atI xs (i : Int) = some a := atI_nat h
/-- a def of one datum, answered by a truth -/
abbrev spB (f : PyData → Bool) : ASp := fun as Ω P => ∃ d, as = [.dat d] ∧ P (.dat (.bool (f d))) Ω
end
end Dat

set_option Elab.async false
set_option linter.all false
set_option maxRecDepth 100000
set_option maxHeartbeats 1000000
namespace Dat
open PySem PySem.Spec PyProof.Rows L2
/-! ### the rules with the written part given outright -/
section
variable {X : Cx} {K : PySem.W.Frag} [Tb K]
theorem ixT (hK : X.K = K) : IxR X (rIxT K) := by subst hK; exact ix_tup
theorem ixL (hK : X.K = K) : IxR X (rIxL K) := by subst hK; exact ix_list
theorem slT (hK : X.K = K) : SlR X (rSlA K) := by subst hK; exact sl_tupA
theorem slL (hK : X.K = K) : SlR X (rSlL K) := by subst hK; exact sl_list
theorem catT (hK : X.K = K) : OpR X (binaryOp .Add) (rCatA K) := by subst hK; exact op_catA
theorem inQ (hK : X.K = K) : OpR X (compareOp .In) (rIn K false) := by subst hK; exact op_in_seq
theorem niQ (hK : X.K = K) : OpR X (compareOp .NotIn) (rIn K true) := by subst hK; exact op_notIn_seq
theorem inStrQ (hK : X.K = K) (hu : X.A.units + 64 < cLine) : OpR X (compareOp .In) (rInStr K) := by subst hK; exact op_inStr hu
theorem eqDQ (hK : X.K = K) (hu : X.A.units + 64 < cLine) : OpR X (compareOp .Eq) (rEqD K) := by subst hK; exact op_eqD hu
theorem neDQ (hK : X.K = K) (hu : X.A.units + 64 < cLine) : OpR X (compareOp .NotEq) (rNeD K) := by subst hK; exact op_neD hu
theorem isiQ (hK : X.K = K) : CallR X (.builtin "isinstance") (rIsi K) := by subst hK; exact call_isi
theorem lenQ (hK : X.K = K) : CallR X (.builtin "len") (rLenQ K) := by subst hK; exact cl_len
theorem listQ (hK : X.K = K) : CallR X (.type "list") (rListQ K) := by subst hK; exact cl_list
theorem allQ (hK : X.K = K) (hc : X.calm = true) : CallR X (.builtin "all") (rAll K) := by subst hK; exact cr_all hc
theorem anyQ (hK : X.K = K) (hc : X.calm = true) : CallR X (.builtin "any") (rAny K) := by subst hK; exact cr_any hc
theorem sumQ (hK : X.K = K) (hc : X.calm = true) : CallR X (.builtin "sum") (rSum K) := by subst hK; exact cr_sum hc
theorem maxQ (hK : X.K = K) (hc : X.calm = true) : CallR X (.builtin "max") (rMax K) := by subst hK; exact cr_max hc
theorem minQ (hK : X.K = K) (hc : X.calm = true) : CallR X (.builtin "min") (rMin K) := by subst hK; exact cr_min hc
theorem sortedQ (hK : X.K = K) : CallR X (.builtin "sorted") (rSorted K) := by subst hK; exact cr_sorted
theorem reprQ (hK : X.K = K) (hg : X.A.guards = some []) (hu : X.A.units + 100 < cLine) : CallR X (.builtin "repr") (rReprQ K) := by subst hK; exact cl_repr hg hu
theorem piT {tg l : Expr} {tl : TE} (hK : X.K = K) (hl : PE X l tl) : PI X tg l (iTup K tl) := by subst hK; exact pi_tup hl
theorem piL {tg l : Expr} {tl : TE} (hK : X.K = K) (hl : PE X l tl) : PI X tg l (iList K tl) := by subst hK; exact pi_list hl
theorem pgT {es : List Expr} {k : Nat} {t : TGs} {n : Nat} {pos : Pos} (hK : X.K = K) (hc : X.calm = true) (h : PGs X es t)
    (hn : (assignEach es X.env).length = n := by rfl) (hst : (assignEach es X.env).findIdx? (·.1) = none := by rfl) : PG X (.Tuple es k pos) (gTup K n t) := by subst hK; exact pg_tup hc h hn hst
theorem appQ {o e : Expr} {to : TE} {t : TA} {apos cpos : Pos} (hK : X.K = K) (ho : PE X o to) (ha : PA X [e] t)
    (hbase : attributeBase o "append" X.env (eval o X.env) = eval o X.env := by rfl)
    (hfew : ((backTo cpos (starEach [e] X.env)).all (fun x => !x.1) && (backToKw cpos (keywordEach [] X.env)).all (fun x => x.1.isSome)
      && decide ([e].length + ([] : List Keyword).length + (if ([] : List Keyword).isEmpty then 0 else 1) < 30)) = true := by rfl)
    (hline : (apos.endLine == cpos.line) = true := by rfl) (hs : starEach [e] X.env = (false, eval e X.env) :: starEach [] X.env := by rfl) (hplain : (backTo cpos (starEach [] X.env)).any (·.1) = false := by rfl) :
    PE X (.Call (.Attribute o "append" apos) [e] [] cpos) (tBM K "list" rAppend to t) := by
  subst hK
  exact pe_bm PySem.F.plainAttrs_list PySem.F.slot_list_append PySem.F.type_list_append mt_append ho ha hbase hfew hline hs hplain
theorem zipQ {e e2 : Expr} {ta : TA} {p pos tpos : Pos} {elts : List Expr} {kk : Nat} (hK : X.K = K) (hg : Gl X "zip") (hm : X.mg "zip" = none) (ha : PA X [e, e2] ta)
    (hs : starEach [e, e2] X.env = (false, eval e X.env) :: starEach [e2] X.env := by rfl) (hpl : (backTo pos (starEach [e2] X.env)).any (·.1) = false := by rfl) :
    PI X (.Tuple elts kk tpos) (.Call (.Name "zip" p) [e, e2] [] pos) (RZ.iZipA K ta) := by
  subst hK
  exact RZ.pi_zipA hg hm ha hs hpl
theorem enumQ {e : Expr} {ta : TA} {p pos tpos : Pos} {elts : List Expr} {kk : Nat} (hK : X.K = K) (hg : Gl X "enumerate") (hm : X.mg "enumerate" = none) (ha : PA X [e] ta) (hs : starEach [e] X.env = [(false, eval e X.env)] := by rfl) :
    PI X (.Tuple elts kk tpos) (.Call (.Name "enumerate" p) [e] [] pos) (iEnum K ta) := by
  subst hK
  exact pi_enum hg hm ha hs
end
/-! ### truths, one after another -/
abbrev IsB (b : Bool) (Ω : AH) : Av → AH → Prop := fun a Ω' => a = .dat (.bool b) ∧ Ω' = Ω
abbrev IsT (b : Bool) (Ω : AH) : Bool → AH → Prop := fun a Ω' => a = b ∧ Ω' = Ω
section
variable {K : PySem.W.Frag} [Tb K] {Γ : List (Option Av)} {Ω : AH} {P : Av → AH → Prop} {ta tb : TE} {tt tu : TT} {b1 b2 b : Bool}
theorem e_andB (h1 : EW K ta Γ Ω (IsB b1 Ω)) (h2 : b1 = true → EW K tb Γ Ω (IsB b2 Ω)) : EW K (tAndV ta tb) Γ Ω (IsB (b1 && b2) Ω) :=
  e_andV (h1.mono fun a Ω' ⟨e, eo⟩ => ⟨b1, e, fun z => by subst eo; rw [z, Bool.true_and]; exact h2 z, fun z => by rw [z, Bool.false_and]; exact ⟨rfl, eo⟩⟩)
theorem e_orB (h1 : EW K ta Γ Ω (IsB b1 Ω)) (h2 : b1 = false → EW K tb Γ Ω (IsB b2 Ω)) : EW K (tOrV ta tb) Γ Ω (IsB (b1 || b2) Ω) :=
  e_orV (h1.mono fun a Ω' ⟨e, eo⟩ => ⟨b1, e, fun z => by rw [z, Bool.true_or]; exact ⟨rfl, eo⟩, fun z => by subst eo; rw [z, Bool.false_or]; exact h2 z⟩)
theorem e_notB (h1 : EW K ta Γ Ω (IsB b1 Ω)) : EW K (tNotV ta) Γ Ω (IsB (!b1) Ω) := e_notV (h1.mono fun a Ω' ⟨e, eo⟩ => ⟨b1, e, rfl, eo⟩)
theorem TW.mono {P P' : Bool → AH → Prop} (h : TW K tt Γ Ω P) (f : ∀ b Ω', P b Ω' → P' b Ω') : TW K tt Γ Ω P' := fun F σ H Q k q => h F σ H Q k fun b Ω' H' p => q b Ω' H' (f b Ω' p)
theorem t_andB (h1 : TW K tt Γ Ω (IsT b1 Ω)) (h2 : b1 = true → TW K tu Γ Ω (IsT b2 Ω)) : TW K (tAnd tt tu) Γ Ω (IsT (b1 && b2) Ω) :=
  t_and (h1.mono fun a Ω' ⟨e, eo⟩ => ⟨fun z => by subst eo; rw [← e, z, Bool.true_and]; exact h2 (e.symm.trans z), fun z => ⟨by rw [← e, z, Bool.false_and], eo⟩⟩)
theorem t_orB (h1 : TW K tt Γ Ω (IsT b1 Ω)) (h2 : b1 = false → TW K tu Γ Ω (IsT b2 Ω)) : TW K (tOr tt tu) Γ Ω (IsT (b1 || b2) Ω) :=
  t_or (h1.mono fun a Ω' ⟨e, eo⟩ => ⟨fun z => ⟨by rw [← e, z, Bool.true_or], eo⟩, fun z => by subst eo; rw [← e, z, Bool.false_or]; exact h2 (e.symm.trans z)⟩)
theorem t_notB (h1 : TW K tt Γ Ω (IsT b1 Ω)) : TW K (tNot tt) Γ Ω (IsT (!b1) Ω) := t_not (h1.mono fun a Ω' ⟨e, eo⟩ => ⟨by rw [e], eo⟩)
theorem t_ofB (h : EW K ta Γ Ω (IsB b Ω)) : TW K (tB ta) Γ Ω (IsT b Ω) := t_B (h.mono fun a Ω' ⟨e, eo⟩ => ⟨b, e, rfl, eo⟩)
theorem t_ofC (h : EW K ta Γ Ω (IsB b Ω)) : TW K (tTest ta) Γ Ω (IsT b Ω) := t_test (h.mono fun a Ω' ⟨e, eo⟩ => ⟨b, e, rfl, eo⟩)
theorem s_retB {E : EndA} (h : EW K ta Γ Ω (IsB b Ω)) (q : E.rt (.dat (.bool b)) Ω) : SW K (tRet ta) Γ Ω E := s_ret (h.mono fun a Ω' ⟨e, eo⟩ => by rw [e, eo]; exact q)
theorem s_ifB {E : EndA} {t u : TS} (h : TW K tt Γ Ω (IsT b Ω)) (h1 : b = true → SW K t Γ Ω E) (h2 : b = false → SW K u Γ Ω E) : SW K (tIfS tt t u) Γ Ω E :=
  s_if (h.mono fun a Ω' ⟨e, eo⟩ => by subst e eo; exact ⟨h1, h2⟩)
end
end Dat

set_option Elab.async false
set_option linter.all false
set_option maxRecDepth 100000
set_option maxHeartbeats 3200000
/-! set of a list of ints, sorted(set(list)) -/
namespace SetL
open PySem PySem.Spec PyProof.Rows L2
/-- what a set holds that was just made -/
abbrev mtS (w : World) : Obj := { cls := .type "set", dict := none, data := .set #[] 0 (.fresh 0 0 (!w.params.followText "set-order")) }
section
variable {P : Program} {w : World} {A : Around} {E : Value → Shared → Prop} {s : Shared}
theorem set_of_list {l : Addr} {vs : Array Value} (ks : List Int) {Q : Value → Shared → Prop} (nh : A.handled = none) (pl : s.heap.IsList l vs) (ia : IntsAre vs.toList ks) (bd : ks.length + 1 < scanBound)
    (fin : ∀ (hp2 : Heap) (tk2 c : Nat), SetR w hp2 s.heap.objs.size (fun j => decide (j ∈ ks)) c → c ≤ ks.length → (∀ b o, s.heap.get? b = some o → hp2.get? b = some o) → Q (.ref s.heap.objs.size) { s with heap := hp2, toks := tk2 }) :
    wpAny (model P w) A (call (.type "set") [.ref l]) Q E s := by
  have sz : vs.size = ks.length := by have := IntsAre.length ia; rwa [Array.length_toList] at this
  obtain ⟨mc, mtl, mro⟩ := F.called_set.mro; have mde := F.called_set.made; have sbc := F.called_set.sub
  refine wpAny_call (codeAny_of_tree ?_); show wpAny _ _ (callAny (.type "set") _) _ _ _
  refine wpAny_pure ⟨Code.quiet_builtin _ (by decide +kernel), codeAny_builtin F.entry_type_call ?_⟩; rw [Around.under_plain (weight_type_call_type "set" [.ref l] []) rfl]
  have nt := F.called_set.notType; have cc := F.called_set.canCreate; have tc := F.typeCall_set_1 (.ref l)
  repeat (any_goals (first | assumption | wp_step))
  refine codeAny_mono (code_set_led1 (.ref l) (E := E) (Q₁ := fun x sx => x = .ref s.heap.objs.size ∧ sx = { s with heap := s.heap.push (mtS w) }) ⟨rfl, rfl⟩) fun r1 sr hr1 => ?_
  cases r1 with
  | error z => exact hr1
  | ok fl1 =>
    cases fl1 with
    | ret x =>
      obtain ⟨rfl, rfl⟩ := hr1
      have gS : (s.heap.push (mtS w)).get? s.heap.objs.size = some (mtS w) := Heap.get?_push_size _ rfl
      have tyS : Shared.TypeIs { s with heap := s.heap.push (mtS w) } (.ref s.heap.objs.size) "set" := ⟨_, gS, rfl⟩
      have il := F.called_set.init.lookup; have ib := F.called_set.init.bind (.ref s.heap.objs.size)
      repeat (any_goals (first | assumption | wp_step))
      refine codeAny_mono (codeAny_call_builtin (R := wants (fun x sx => x = .none ∧ ∃ hp2 tk2 c, sx = { s with heap := hp2, toks := tk2 } ∧ SetR w hp2 s.heap.objs.size (fun j => decide (j ∈ ks)) c ∧ c ≤ ks.length ∧
          (∀ b o, s.heap.get? b = some o → hp2.get? b = some o)) E) F.called_set.init.plain F.entry_set_init (check_set_init_1 tyS ?_)) fun r2 sr2 hr2 => ?_
      · obtain ⟨⟨c0, d0, dt0, sl0⟩, ho, hc0, n0, hd0⟩ := pl
        simp only at hc0 hd0; subst hc0; subst hd0
        have ho2 : (s.heap.push (mtS w)).get? l = some { cls := .type "list", dict := d0, data := .seq vs n0, slots := sl0 } := Heap.get?_push_of_some _ ho
        have f1 := F.sub_list_set; have f2 := F.sub_list_frozenset; have f3 : (Value.type "list" == Value.type "dict") = false := by decide
        have pl2 : (s.heap.push (mtS w)).IsList l vs := ⟨_, ho2, rfl, n0, rfl⟩
        unfold Builtin.«set.__init__» noKeywords Builtin.Frozenset.updateFrom; generalize hIt : pyIter = It
        wp_walk
        subst hIt
        refine wpAny_pyIter_list pl2 (wpAny_bind (wpAny_runValue ?_))
        have lS : l < s.heap.objs.size := Heap.lt_size ho
        have nh3 : A.in1.in1.in1.handled = none := by simp [nh]
        have psz : (s.heap.push (mtS w)).objs.size = s.heap.objs.size + 1 := Heap.size_push ..
        have ne1 : l ≠ (s.heap.push (mtS w)).objs.size := by rw [psz]; exact Nat.ne_of_lt (Nat.lt_succ_of_lt lS)
        have ne2 : s.heap.objs.size ∉ [(s.heap.push (mtS w)).objs.size, l] := by rw [psz]; simp only [List.mem_cons, List.not_mem_nil, or_false, not_or]; exact ⟨Nat.ne_of_lt (Nat.lt_succ_self _), Nat.ne_of_gt lS⟩
        have val : ∀ (i : Nat) (v : Value), vs[i]? = some v → ∃ k t, ks[i]? = some k ∧ v = .int k t := fun i v hv => by
          have hi : i < ks.length := by rw [← sz]; exact (Array.getElem?_eq_some_iff.mp hv).1
          obtain ⟨t, e⟩ := PyProof.Rows.IntsAre.int_at ia i v (by rwa [Array.getElem?_toList])
          exact ⟨ks[i], t, List.getElem?_eq_getElem hi, by rw [e, List.getD_eq_getElem?_getD, List.getElem?_eq_getElem hi]; rfl⟩
        refine set_update_ints ((Walks.list nh3 _ l ne1 vs).toS) s.heap.objs.size ne2 ks sz bd val (vs.size - 0) 0 _ (by omega) (Nat.zero_le _) ⟨⟨_, Heap.get?_push_size _ rfl, rfl, rfl⟩, (pl2.push _)⟩
          ⟨0, Nat.le_refl 0, setR_new_at (Heap.get?_push_of_some _ gS)⟩ fun s3 c3 mv lc hS3 => ?_
        obtain ⟨hp2, g3, d3, tk3, os3⟩ := s3
        have e1 : g3 = s.gens := mv.gens; have e2 : d3 = s.drawn := mv.drawn; have e3 : os3 = s.os := mv.os
        subst e1; subst e2; subst e3
        show wpAny _ _ _ _ _ _; refine wpAny_pure ?_; show wpAny _ _ (ret Value.none) _ _ _
        refine wpAny_pure ⟨rfl, hp2, tk3, c3, rfl, hS3, by rw [sz] at lc; exact lc, fun b o e => ?_⟩
        have hb0 : b < s.heap.objs.size := Heap.lt_size e
        exact mv.heap b o (by rw [psz]; simp only [List.mem_cons, List.not_mem_nil, or_false, not_or]; exact ⟨Nat.ne_of_lt hb0, Nat.ne_of_lt (Nat.lt_succ_of_lt hb0)⟩) (Heap.get?_push_of_some _ (Heap.get?_push_of_some _ e))
      · cases r2 with
        | error z => exact hr2
        | ok fl2 =>
          cases fl2 with
          | ret x =>
            obtain ⟨rfl, hp2, tk2, c, rfl, g1, g2, g3⟩ := hr2
            repeat (any_goals (first | assumption | wp_step))
            exact fin _ _ _ g1 g2 g3
          | _ => exact hr2.elim
    | _ => exact hr1.elim
end
/-- set(list of ints) -/
def rSetL (w : World) : List V → Hp → VK → Prop := fun xs H Q => ∃ (p : Addr) (ks : List Int), xs = [.ref p] ∧ H p = some (.lst (ks.map V.int)) ∧ ks.length ≤ 1000 ∧
  ∀ (a : Addr) (c : Nat), H a = none → c ≤ ks.length → Q (.ref a) (upd H a (SetO w a (fun j => decide (j ∈ ks)) c))
theorem cr_setL {X : Cx} (hc : X.calm = true) : CallR X (.type "set") (rSetL X.w) := by
  intro pins s σ H xs us Q I r h
  obtain ⟨p, ks, rfl, hp, hl, q⟩ := h
  rw [Vals.ref1 r]
  obtain ⟨its, rv, pl, _⟩ := I.list (SqL.of (K := X.K) hp)
  refine set_of_list ks (I.ok.hd hc) pl.isList (by simpa using RZ.intsAre_vals rv) (by unfold scanBound; omega) fun h' tk c R lc k => ?_
  have nf : H s.heap.objs.size = none := I.hok.fresh (Nat.le_refl _)
  refine ⟨.ref s.heap.objs.size, _, ?_, rfl, q _ c nf lc⟩
  exact I.laid (t' := tk) k (Nat.le_refl _) (setO_new R)
end SetL
namespace Dat
open PySem PySem.Spec PyProof.Rows L2
theorem setLQ {X : Cx} {w : World} (hw : X.w = w) (hc : X.calm = true) : CallR X (.type "set") (SetL.rSetL w) := by subst hw; exact SetL.cr_setL hc
theorem sortSetQ {X : Cx} {w : World} (hw : X.w = w) (hc : X.calm = true) : CallR X (.builtin "sorted") (rSortedSet w) := by subst hw; exact cr_sortedSet hc
section
variable {K : PySem.W.Frag} [Tb K] {Γ : List (Option Av)} {Ω : AH} {P : Av → AH → Prop} {tl : TA} {w : World}
theorem e_sortSet (h : AW K tl Γ Ω fun as Ω1 => ∃ ks : List Int, Dats as [.list (ks.map PyData.int)] ∧ ks.length ≤ 40 ∧ ∀ ns : List Int, ns.Pairwise (· < ·) → (∀ k, k ∈ ns ↔ k ∈ ks) → P (.dat (.list (ns.map PyData.int))) Ω1) :
    EW K (tCB (rSortedSet w) (tCons (tCB (SetL.rSetL w) tl) tNil)) Γ Ω P := fun F σ H Q k q =>
  h F σ H _ k fun as vs Ω1 H1 ⟨ks, ea, hl, hp⟩ k1 v1 => by
    rw [ea.eq] at v1
    cases v1 with | cons va v1 => cases v1; cases va with | dat va =>
      obtain ⟨a, rfl, ha⟩ := dq_intsL va
      refine ⟨a, ks, rfl, Fz_le _ _ ha, by omega, fun b c nb lc => ⟨b, _, c, rfl, upd_same, by omega, fun ns p hs hm _ np => ?_⟩⟩
      have k2 := k1.same (same_new (o := SetO w b (fun j => decide (j ∈ ks)) c) nb)
      exact q _ _ _ _ (hp ns hs fun k => by rw [hm k]; simp) (k2.same (same_new np)) (.dat (lst_new k2 np .ofInts))
end
end Dat

set_option Elab.async false
set_option linter.all false
set_option maxRecDepth 100000
set_option maxHeartbeats 1000000
namespace Dat
open PySem PySem.Spec PyProof.Rows L2
section
variable {K : PySem.W.Frag} [Tb K] {Γ : List (Option Av)} {Ω : AH} {g g1 : TG} {te : TE}
/-- a comprehension of two walks that changes nothing -/
theorem e_lc2P {α β : Type} {wi wi1 : TI} {vs vs1 : List Nat} {P : Av → AH → Prop} (xs : List α) (enc : α → Av) (ys : α → List β) (enc1 : β → Av) (out : α → β → PyData) (hg : GN g vs) (hg1 : GN g1 vs1) (hz : xs.length ≤ 200) (hz1 : ∀ x ∈ xs, (ys x).length ≤ 200)
    (h : IW K wi Γ Ω fun as Ω1 => as = xs.map enc ∧ (∀ x Ω', x ∈ xs → (∀ q bs, Ω1 q = some bs → Ω' q = some bs) → GW K g (enc x) (wipeA Γ vs) Ω' fun Γ2 Ω2 => Ω2 = Ω' ∧ IW K wi1 Γ2 Ω2 fun bs Ω3 => Ω3 = Ω' ∧ bs = (ys x).map enc1 ∧
        ∀ y Ω4, y ∈ ys x → (∀ q bs, Ω1 q = some bs → Ω4 q = some bs) → GW K g1 (enc1 y) (wipeA Γ2 vs1) Ω4 fun Γ5 Ω5 => Ω5 = Ω4 ∧ EW K te Γ5 Ω5 fun z Ω6 => Ω6 = Ω4 ∧ z = .dat (out x y)) ∧
      ∀ D, Ω1 D = none → P (.ptr D) (put Ω1 D ((xs.flatMap fun x => (ys x).map (out x)).map .dat))) : EW K (tLc2 wi g tYes wi1 g1 tYes te vs vs1) Γ Ω P := by
  refine fun F σ H Q k q => h F σ H _ k fun as Ω1 H1 J ⟨ea, hb, hp⟩ k1 wk D nD => ?_
  have fD := k1.free nD
  have ext : ∀ acc q bs, Ω1 q = some bs → put Ω1 D acc q = some bs := fun acc q bs hq => by
    rw [put_ne (ne_of_Ω hq fD)]
    exact hq
  refine ⟨fun i m H' => m = as.length - i ∧ i ≤ as.length ∧ ((xs.take i).flatMap fun x => (ys x).map (out x)).length ≤ 200 * i ∧ Ok K (Fz Ω1 H1) (put Ω1 D (((xs.take i).flatMap fun x => (ys x).map (out x)).map .dat)) Γ σ H', ⟨_, rfl, Nat.zero_le _, Nat.zero_le _, k1.re.new nD .nil⟩, ?_⟩
  rintro i m H' ⟨rfl, hi, hl, k'⟩
  by_cases hlt : i < as.length
  · have hlt' : i < xs.length := by rw [ea, List.length_map] at hlt; exact hlt
    have ex : xs[i]? = some xs[i] := List.getElem?_eq_getElem hlt'
    generalize hx : xs[i] = x at ex
    have mx : x ∈ xs := List.mem_of_getElem? ex
    have eas : as[i]? = some (enc x) := by rw [ea, List.getElem?_map, ex]; rfl
    obtain ⟨hgo, hy⟩ := wk.go _ H' k'.bare i _ eas
    have tk : (xs.take (i + 1)).flatMap (fun x => (ys x).map (out x)) = (xs.take i).flatMap (fun x => (ys x).map (out x)) ++ (ys x).map (out x) := by
      rw [List.take_add_one, ex, List.flatMap_append]
      simp
    refine .inr ⟨hgo, fun H2 => ((xs.take (i + 1)).flatMap fun x => (ys x).map (out x)).length ≤ 200 * (i + 1) ∧ Ok K (Fz Ω1 H1) (put Ω1 D (((xs.take (i + 1)).flatMap fun x => (ys x).map (out x)).map .dat)) Γ σ H2, fun H2 k2 => ⟨_, by omega, rfl, by omega, k2⟩, fun x' H2 hyx => ?_⟩
    obtain ⟨s2, v2⟩ := hy x' H2 hyx
    have k2 := k'.same s2
    refine hg x' (L2.wipe σ vs) H2 _ _ (fun σ3 H3 l3 a3 q3 => ⟨wipe_agree l3 a3, q3⟩) ?_
    refine hb x _ mx (ext _) _ (L2.wipe σ vs) H2 x' _ (k2.re.wipe vs) v2 fun Γ3 σ3 Ω3 H3 ⟨e3, h3⟩ k3 => ?_
    subst e3
    refine h3 _ σ3 H3 _ k3.re fun bs Ω4 H4 J1 ⟨e4, eb, hin⟩ k4 wk1 => ?_
    subst e4
    generalize hA : (xs.take i).flatMap (fun x => (ys x).map (out x)) = A at *
    refine ⟨fun j kk H5 => kk = bs.length - j ∧ j ≤ bs.length ∧ Ok K (Fz (put Ω1 D (A.map .dat)) H4) (put Ω1 D ((A ++ ((ys x).take j).map (out x)).map .dat)) Γ3 σ3 H5, ⟨_, rfl, Nat.zero_le _, ?_⟩, ?_⟩
    · rw [List.take_zero, List.map_nil, List.append_nil]
      exact k4.re
    rintro j kk H5 ⟨rfl, hj, k5⟩
    have hly := hz1 x mx
    by_cases hlj : j < bs.length
    · have hlj' : j < (ys x).length := by rw [eb, List.length_map] at hlj; exact hlj
      have ey : (ys x)[j]? = some (ys x)[j] := List.getElem?_eq_getElem hlj'
      generalize hyy : (ys x)[j] = y at ey
      have my : y ∈ ys x := List.mem_of_getElem? ey
      have ebs : bs[j]? = some (enc1 y) := by rw [eb, List.getElem?_map, ey]; rfl
      obtain ⟨hgo1, hy1⟩ := wk1.go _ H5 k5.bare j _ ebs
      have tj : ((ys x).take (j + 1)).map (out x) = ((ys x).take j).map (out x) ++ [out x y] := by
        rw [List.take_add_one, ey, List.map_append]
        rfl
      refine .inr ⟨hgo1, fun H6 => Ok K (Fz (put Ω1 D (A.map .dat)) H4) (put Ω1 D ((A ++ ((ys x).take (j + 1)).map (out x)).map .dat)) Γ3 σ3 H6, fun H6 k6 => ⟨_, by omega, rfl, by omega, k6⟩, fun y' H6 hyz => ?_⟩
      obtain ⟨s6, v6⟩ := hy1 y' H6 hyz
      have k6 := k5.same s6
      refine hg1 y' (L2.wipe σ3 vs1) H6 _ _ (fun σ7 H7 l7 a7 q7 => ⟨wipe_agree l7 a7, q7⟩) ?_
      refine hin y _ my (ext _) _ (L2.wipe σ3 vs1) H6 y' _ (k6.re.wipe vs1) v6 fun Γ7 σ7 Ω7 H7 ⟨e7, h7⟩ k7 => ?_
      subst e7
      refine h7 _ σ7 H7 _ k7.re fun z v Ω8 H8 ⟨e8, ez⟩ k8 v8 => ?_
      subst e8 ez
      have k8' : Ok K (Fz (put Ω1 D (A.map .dat)) H4) _ Γ3 σ3 H8 := k6.back ((k8.anchor k7.fr).bare)
      obtain ⟨zs, hz8, g8⟩ := k8.st D _ put_same
      have l8 := g8.length
      rw [List.length_map, List.length_append, List.length_map, List.length_take] at l8
      refine ⟨zs, hz8, sz_lt (by omega), ?_⟩
      have := k8'.put put_same (g8.app (.cons v8 .nil))
      rw [put_put] at this
      rw [tj, ← List.append_assoc, List.map_append]
      exact this
    · have ej : j = (ys x).length := by rw [eb, List.length_map] at hj hlj; omega
      have ej2 : j = bs.length := by rw [eb, List.length_map]; exact ej
      refine .inl ⟨by rw [ej2]; exact wk1.stop _ H5 k5.bare, ?_, ?_⟩
      · rw [tk, List.length_append, List.length_map]
        omega
      · rw [tk]
        subst ej
        rw [List.take_length] at k5
        exact k2.back ((k5.anchor (k3.fr.trans k4.fr)).bare)
  · have ei : i = xs.length := by rw [ea, List.length_map] at hi hlt; omega
    subst ei
    refine .inl ⟨by have := wk.stop _ H' k'.bare; rw [ea, List.length_map] at this; exact this, q _ _ _ _ (hp D fD) ?_ (.ptr D)⟩
    rw [List.take_length] at k'
    exact k'.anchor k1.fr
theorem e_lc2M {α β : Type} {wi wi1 : TI} {vs vs1 : List Nat} {P : Av → AH → Prop} (xs : List α) (enc : α → Av) (ys : α → List β) (enc1 : β → Av) (out : α → β → PyData) (hg : GN g vs) (hg1 : GN g1 vs1) (hz : xs.length ≤ 200) (hz1 : ∀ x ∈ xs, (ys x).length ≤ 200)
    (h : IW K wi Γ Ω fun as Ω1 => as = xs.map enc ∧ (∀ x Ω', x ∈ xs → (∀ q bs, Ω1 q = some bs → Ω' q = some bs) → GW K g (enc x) (wipeA Γ vs) Ω' fun Γ2 Ω2 => Ω2 = Ω' ∧ IW K wi1 Γ2 Ω2 fun bs Ω3 => Ω3 = Ω' ∧ bs = (ys x).map enc1 ∧
        ∀ y Ω4, y ∈ ys x → (∀ q bs, Ω1 q = some bs → Ω4 q = some bs) → GW K g1 (enc1 y) (wipeA Γ2 vs1) Ω4 fun Γ5 Ω5 => Ω5 = Ω4 ∧ EW K te Γ5 Ω5 fun z Ω6 => Ω6 = Ω4 ∧ z = .dat (out x y)) ∧
      P (.dat (.list (xs.flatMap fun x => (ys x).map (out x)))) Ω1) : EW K (tLc2 wi g tYes wi1 g1 tYes te vs vs1) Γ Ω P := by
  refine EW.frz (e_lc2P xs enc ys enc1 out hg hg1 hz hz1 fun F σ H R k q => h F σ H R k fun as Ω1 H1 J ⟨ea, hb, hp⟩ k1 wk => q as Ω1 H1 J ⟨ea, hb, fun D nD => ⟨D, _, rfl, put_same, ?_⟩⟩ k1 wk)
  rw [del_put nD]
  exact hp
/-! comparisons with a list that may change -/
variable {p : Addr} {ds : List PyData} {e : PyData} {P : Av → AH → Prop}
theorem Ok.listAt {F H : Hp} (k : Ok K F Ω [] [] H) (o : Ω p = some (ds.map .dat)) : Dq K H (.ref p) (.list ds) := by
  obtain ⟨xs, h1, h2⟩ := k.st p _ o
  exact .lst h1 (h2.dats.same Fz_le)
theorem r_eqP (o : Ω p = some (ds.map .dat)) (s1 : SeqAt.shaped (.list ds) = true) (s2 : SeqAt.shaped e = true) (h : P (.dat (.bool (PyData.eqv (.list ds) e))) Ω) : R2W K (rEqD K) (.ptr p) (.dat e) Ω P := fun F H x y Q k hx hy q => by
  cases hx
  cases hy with | dat hy =>
    exact ⟨_, e, (k.listAt o).dp (shaped_lay s1), (hy.same Fz_le).dp (shaped_lay s2), s1, s2, q _ _ _ _ h k (.dat (.bl _))⟩
theorem r_neP (o : Ω p = some (ds.map .dat)) (s1 : SeqAt.shaped (.list ds) = true) (s2 : SeqAt.shaped e = true) (h : P (.dat (.bool (!PyData.eqv (.list ds) e))) Ω) : R2W K (rNeD K) (.ptr p) (.dat e) Ω P := fun F H x y Q k hx hy q => by
  cases hx
  cases hy with | dat hy =>
    exact ⟨_, e, (k.listAt o).dp (shaped_lay s1), (hy.same Fz_le).dp (shaped_lay s2), s1, s2, q _ _ _ _ h k (.dat (.bl _))⟩
end
end Dat

set_option Elab.async false
set_option linter.all false
set_option maxRecDepth 100000
set_option maxHeartbeats 1000000
namespace Dat
open PySem PySem.Spec PyProof.Rows L2
/-! ### a list beside the empty one -/
def rEqNil (K : PySem.W.Frag) : R2 := fun x y H Q => ∃ a b xs, x = .ref a ∧ y = .ref b ∧ SqL K H a xs ∧ SqL K H b [] ∧ Q (.bl xs.isEmpty) H
theorem op_eqNil {X : Cx} (hu : X.A.units + 64 < cLine) : OpR X (compareOp .Eq) (rEqNil X.K) := by
  intro pins s σ H x y v u Q I rx ry h
  obtain ⟨a, b, xs, rfl, rfl, h1, h2, q⟩ := h
  cases rx
  cases ry
  obtain ⟨its, r1, p1, _⟩ := I.list h1
  obtain ⟨jts, r2, p2, _⟩ := I.list h2
  cases r2
  cases r1 with
  | nil => exact SeqAt.eq_listAt (e := fun _ => true) p1.isList p2.isList rfl (by omega) (fun j h1 _ => by simp at h1) ⟨.bl _, H, I, rfl, q⟩
  | cons _ _ => exact SeqAt.eq_list_lengthsAt p1.isList p2.isList (by simp) (by omega) ⟨.bl _, H, I, rfl, q⟩
theorem eqNilQ {X : Cx} {K : PySem.W.Frag} [Tb K] (hK : X.K = K) (hu : X.A.units + 64 < cLine) : OpR X (compareOp .Eq) (rEqNil K) := by subst hK; exact op_eqNil hu
section
variable {K : PySem.W.Frag} [Tb K] {F : Hp} {Γ : List (Option Av)} {Ω : AH} {P : Av → AH → Prop} {ta tb te : TE} {g : TG} {gs : TGs} {a : Av} {as : List Av} {ds : List PyData}
theorem r_eqNil (h : P (.dat (.bool ds.isEmpty)) Ω) : R2W K (rEqNil K) (.dat (.list ds)) (.dat (.list [])) Ω P := fun F H x y Q k hx hy q => by
  cases hx with | dat hx => cases hy with | dat hy => cases hx with | lst h1 g1 => cases hy with | lst h2 g2 =>
    cases g2
    refine ⟨_, _, _, rfl, rfl, SqL.of (Fz_le _ _ h1), SqL.of (Fz_le _ _ h2), ?_⟩
    have e : ∀ {vs : List V}, DqAll K (Fz Ω H) vs ds → vs.isEmpty = ds.isEmpty := fun g => by cases g <;> rfl
    rw [e g1]
    exact q _ _ _ _ h k (.dat (.bl _))
/-- {} -/
theorem e_dnew (h : P (.dat (.dict [])) Ω) : EW K tDNewK Γ Ω P := fun F σ H Q k q p np =>
  q _ _ _ _ h (k.same (same_new np)) (.dat (.dct (Fz_at (k.off np))))
/-- a list's place as a target -/
theorem g_sub {P : List (Option Av) → AH → Prop} (h : EW K ta Γ Ω fun o Ω2 => ∃ p, o = .ptr p ∧ EW K tb Γ Ω2 fun c Ω3 => ∃ (z : Int) (as : List Av) (j : Nat), c = .dat (.int z) ∧ Ω3 p = some as ∧ ixN as.length z = some j ∧ P Γ (put Ω3 p (as.set j a))) : GW K (gSub ta tb rSetL) a Γ Ω P := fun F σ H v Q k1 v1 q => by
  refine h (Fz Ω H) σ H _ k1.re fun o x Ω2 H2 ⟨p, eo, h2⟩ k2 v2 => ?_
  subst eo
  cases v2
  refine h2 (Fz Ω2 H2) σ H2 _ k2.re fun c y Ω3 H3 ⟨z, as, jj, ec, ep, ej, hn⟩ k3 v3 => ?_
  subst ec
  cases v3 with | dat v3 =>
    cases v3
    obtain ⟨xs, hx, g⟩ := k3.st p as ep
    refine ⟨p, xs, z, jj, rfl, rfl, hx, ?_, q _ _ _ _ hn ((k3.anchor (k1.fr.trans k2.fr)).put ep (g.set jj ((v1.same k2.fr).same k3.fr)))⟩
    rw [g.length]
    exact ej
theorem gs_consO {P : List (Option Av) → AH → Prop} (h : GW K g a Γ Ω fun Γ1 Ω1 => GsW K gs as Γ1 Ω1 P) : GsW K (gCons g gs) (a :: as) Γ Ω P := fun F σ H vs Q k hv q => by
  cases hv with | cons hv hr =>
    exact ⟨_, _, rfl, h (Fz Ω H) σ H _ _ k.re hv fun Γ1 σ1 Ω1 H1 h1 k1 => h1 F σ1 H1 _ Q (k1.anchor k.fr) (hr.same k1.fr) q⟩
/-- (x,) * n, n at least 2 -/
theorem dqAll_flat' {H : Hp} {xs : List V} (g : DqAll K H xs ds) : ∀ n : Nat, DqAll K H (List.replicate n xs).flatten (List.replicate n ds).flatten
  | 0 => .nil
  | n + 1 => by
    rw [List.replicate_succ, List.replicate_succ, List.flatten_cons, List.flatten_cons]
    exact g.app (dqAll_flat' g n)
theorem r_repT {k : Int} (ne : ds ≠ []) (h1 : 2 ≤ k) (h2 : k ≤ 1000) (hl : ds.length ≤ 1000) (h : P (.dat (.tuple (List.replicate k.toNat ds).flatten)) Ω) : R2W K (rRepT K) (.dat (.tuple ds)) (.dat (.int k)) Ω P := fun F H x y Q kk hx hy q => by
  cases hx with | dat hx => cases hy with | dat hy =>
    cases hy
    cases hx with | tup hs g =>
      have l := g.length
      refine ⟨_, k, _, rfl, rfl, sqT_same Fz_le hs, fun e => ?_, h1, h2, by omega, fun p np => q _ _ _ _ h (kk.same (same_new np)) (.dat (tup_new kk np (dqAll_flat' g _)))⟩
      subst e
      cases g
      exact ne rfl
theorem repTQ {X : Cx} (hK : X.K = K) : OpR X (binaryOp .Mult) (rRepT K) := by subst hK; exact op_repT
end
theorem dats_pack {as : List Av} {ds : List PyData} {Q : List PyData → Prop} (h1 : Dats as ds) (h2 : Nat.ble ds.length 100000 = true) (h3 : Q ds) : ∃ ds, Dats as ds ∧ Nat.ble ds.length 100000 = true ∧ Q ds := ⟨ds, h1, h2, h3⟩
theorem cutD_mem {α : Type} {xs : List α} {lo hi : Option Int} {x : α} (h : x ∈ cutD xs lo hi) : x ∈ xs := List.mem_of_mem_drop (List.mem_of_mem_take h)
theorem cutD_len {α : Type} {xs : List α} {lo hi : Option Int} : (cutD xs lo hi).length ≤ xs.length := by
  unfold cutD
  rw [List.length_take, List.length_drop]
  omega
end Dat

set_option Elab.async false
set_option linter.all false
set_option maxRecDepth 100000
set_option maxHeartbeats 1000000
namespace Dat
open PySem PySem.Spec PyProof.Rows L2
section
variable {K : PySem.W.Frag} [Tb K] {Γ : List (Option Av)} {Ω : AH} {P : Av → AH → Prop} {ds es : List PyData} {p p2 : Addr} {tl tk : TA} {sp : ASp} {X : XK}
/-- two lists that stay, the sum one that may change -/
theorem r_catLLP (hl : ds.length + es.length ≤ 100000) (h : ∀ q, Ω q = none → P (.ptr q) (put Ω q ((ds ++ es).map .dat))) : R2W K rCat (.dat (.list ds)) (.dat (.list es)) Ω P := fun F H x y Q k hx hy q => by
  cases hx with | dat hx => cases hy with | dat hy => cases hx with | lst h1 g1 => cases hy with | lst h2 g2 =>
    have l1 := g1.length
    have l2 := g2.length
    exact ⟨_, _, _, _, rfl, rfl, Fz_le _ _ h1, Fz_le _ _ h2, sz_of (by omega), fun z nz => q _ _ _ _ (h z (k.free nz)) (k.new nz (.ofDats (g1.app g2))) (.ptr z)⟩
/-- two lists that may change, the sum one that stays -/
theorem r_catPPd (o1 : Ω p = some (ds.map .dat)) (o2 : Ω p2 = some (es.map .dat)) (hl : ds.length + es.length ≤ 100000) (h : P (.dat (.list (ds ++ es))) Ω) : R2W K rCat (.ptr p) (.ptr p2) Ω P := fun F H x y Q k hx hy q => by
  cases hx
  cases hy
  obtain ⟨xs, h1, g1⟩ := k.st p _ o1
  obtain ⟨ys, h2, g2⟩ := k.st p2 _ o2
  have l1 := g1.dats.length
  have l2 := g2.dats.length
  exact ⟨_, _, _, _, rfl, rfl, h1, h2, sz_of (by omega), fun z nz => q _ _ _ _ h (k.same (same_new nz)) (.dat (lst_new k nz (g1.dats.app g2.dats)))⟩
/-- a call with keywords alone -/
theorem e_callK {π : List Nat} {m : Nat} (h : AW K tk Γ Ω fun bs Ω2 => bs.length = m ∧ sp (kwA π bs) Ω2 P) : EW K (tCallN 0 m (spA K sp) (fun _ zs => kwV π zs) X tNil tk) Γ Ω P :=
  e_callN (n := 0) (m := m) (fun _ bs => kwA π bs) (fun F as bs vs us _ h => kw_va h π) (a_nil (fun F σ H Q k q => h F σ H Q k fun bs vs Ω1 H1 ⟨e, hs⟩ => q bs vs Ω1 H1 ⟨rfl, e, hs⟩))
end
end Dat

set_option Elab.async false
set_option linter.all false
set_option maxRecDepth 100000
set_option maxHeartbeats 2000000
/-! enumerate of a tuple, zip of three tuples -/
namespace Enz
open PySem PySem.Spec PyProof.Rows L2
abbrev tIt (t : Addr) : Obj := { cls := .type "tuple_iterator", data := .fields #[.ref t, .int 0 0] }
theorem meets_new1 {v : Value} {ob : Obj} {Z : Heap → Prop} (B : Begins v ob Z) :
    Meets (Builtin.«enumerate.__new__» ⟨[.type "enumerate", v], []⟩) (fun _ R s => Z s.heap ∧
      R (.ok (.ret (.ref (s.heap.push ob).objs.size))) { s with heap := (s.heap.push ob).push { cls := .type "enumerate", data := .fields #[.none, .bool false, .ref s.heap.objs.size, rawInt 0, .none, .none] } }) :=
  .of_wp fun prog w A R s z => by
    obtain ⟨hp, gs, dr, tk, os⟩ := s; obtain ⟨z1, fin⟩ := z; have sb := sub_enumerate
    have it1 : ∀ {A2 : Around} {E2 : Value → Shared → Prop} {Q2 : Value → Shared → Prop}, Q2 (.ref hp.objs.size) ⟨hp.push ob, gs, dr, tk, os⟩ → wpAny (model prog w) A2 (pyIter v) Q2 E2 ⟨hp, gs, dr, tk, os⟩ :=
      fun y => B.iter prog w _ _ ⟨hp, gs, dr, tk, os⟩ _ z1 y
    wp_walk using it1
    refine wpAny_stack_any fun stk => wpAny_pure ?_; split
    · rename_i cl _ _ _ _ _; cases (cl == Value.type "enumerate")
      · wp_walk using it1; exact ⟨_, rfl, fin⟩
      · wp_walk using it1; exact ⟨_, rfl, fin⟩
    · wp_walk using it1; exact ⟨_, rfl, fin⟩
section
variable {prog : Program} {w : World} {A : Around} {E : Value → Shared → Prop} {s : Shared}
theorem call_enum1 {v : Value} {ob : Obj} {Z : Heap → Prop} {Q : Value → Shared → Prop} (B : Begins v ob Z) (z1 : Z s.heap)
    (fin : ∀ h2, IsEnum h2 (s.heap.objs.size + 1) s.heap.objs.size 0 .none → h2.get? s.heap.objs.size = some ob → (∀ b o, s.heap.get? b = some o → h2.get? b = some o) → Q (.ref (s.heap.objs.size + 1)) { s with heap := h2 }) :
    wpAny (model prog w) A (call (.type "enumerate") [v]) Q E s := by
  refine callType_new F.called_enumerate (by decide) (F.typeCall_enumerate_1 _) (F.newCall_enumerate_1 _) (fun x => F.args_object_init_2 x _) F.entry_enumerate_new (meets_new1 B) ⟨z1, ?_⟩
  have sz : (s.heap.push ob).objs.size = s.heap.objs.size + 1 := Heap.size_push ..
  show _ ∧ _; rw [sz]
  have ie : IsEnum ((s.heap.push ob).push { cls := .type "enumerate", data := .fields #[.none, .bool false, .ref s.heap.objs.size, rawInt 0, .none, .none] }) (s.heap.objs.size + 1) s.heap.objs.size 0 .none := by
    have y := Heap.get?_push_size (s.heap.push ob) (o := { cls := .type "enumerate", data := .fields #[.none, .bool false, .ref s.heap.objs.size, rawInt 0, .none, .none] }) rfl
    rw [sz] at y; exact y
  exact ⟨⟨_, ie, rfl⟩, fin _ ie (Heap.get?_push_of_some _ (Heap.get?_push_size _ B.free)) fun b o x => Heap.get?_push_of_some _ (Heap.get?_push_of_some _ x)⟩
end
/-- the tuple at a, each item in a new pair with its number -/
def IteT (K : PySem.W.Frag) (a : Addr) : It :=
  ⟨fun i H => ∃ (xs : List V) (x : V), SqT K H a xs ∧ xs[i]? = some x, fun i H v H' => ∃ T x, v = .ref T ∧ H T = none ∧ H' = upd H T (.tup [.int (i : Nat), x]) ∧ ∀ xs, SqT K H a xs → xs[i]? = some x, fun i H => ∃ xs : List V, SqT K H a xs ∧ xs.length = i⟩
theorem turn_enumT {P : Program} {w : World} {K : PySem.W.Frag} {elts : List Expr} {kk : Nat} {tpos : Pos} (a e it : Addr) :
    Turn P w K (.Tuple elts kk tpos) (IteT K a) [e, it] e (fun i h => (∃ old, IsEnum h e it ((i : Nat) : Int) old) ∧ h.IsTupleIter it a i ∧ e ≠ it ∧ e ≠ a ∧ a ≠ it) where
  mem := by simp
  obj := fun i h st b hb => by
    obtain ⟨⟨old, z1⟩, ⟨o, z2, _, z3⟩, _⟩ := st
    rcases (by simpa using hb : b = e ∨ b = it) with y | y
    · rw [y]; exact ⟨_, z1, fun v q => nomatch q⟩
    · rw [y]; exact ⟨o, z2, fun v q => by rw [z3] at q; cases q⟩
  keep := fun i h h' st k => let ⟨⟨old, z1⟩, z2, z3⟩ := st; ⟨⟨old, k e (by simp) _ z1⟩, z2.at fun o q => k it (by simp) o q, z3⟩
  item := by
    intro X hP hw hK hc i pins s σ H E I hf st hg
    subst hP hw hK
    obtain ⟨⟨old, z1⟩, z2, n1, n2, n3⟩ := st
    obtain ⟨xs, x, hq, hx⟩ := hg
    obtain ⟨its, rv, pt, _⟩ := I.tuple hq
    obtain ⟨u, hu, ru⟩ := rv.get hx
    have li : i < its.length := (List.getElem?_eq_some_iff.mp hu).1
    have el : e < s.heap.objs.size := Heap.lt_size z1
    have il : it < s.heap.objs.size := by obtain ⟨_, q, _⟩ := z2; exact Heap.lt_size q
    have dw := Draws.tuple (prog := X.prog) (w := X.w) (A := X.A.in1) (by simp [I.ok.hd hc]) it a n3 its.toArray
    refine wpAny_pyNext_enum_itemD dw z1 ⟨z2, pt⟩ (by simpa using li) n1 (by simp [n1, n2]) fun y h2 tk py io st2 hT sz k => ?_
    have ey : y = u := by
      have py' : its.toArray[i]? = some y := py
      rw [List.getElem?_toArray, hu] at py'
      exact (Option.some.inj py').symm
    subst ey
    refine ⟨_, rfl, wpAny_letOwnedTupleGo_enum (s := { s with heap := h2, toks := tk + 1 }) io fun h3 ie sb => ?_⟩
    have hT3 : h3.get? s.heap.objs.size = some { cls := .type "tuple", data := .seq #[.int i tk, y] } := (sb.2 _ (Nat.ne_of_gt el)).trans hT
    have new : ObjOk X.prog X.w (upd H s.heap.objs.size (.tup [.int (i : Nat), x])) h3 s.heap.objs.size (.tup [.int (i : Nat), x]) :=
      ⟨by show 2 ≤ sizeLine; decide, [.int i tk, y], .cons ⟨_, rfl⟩ (.cons ru .nil), ⟨_, hT3, rfl, _, rfl⟩⟩
    have I2 : Inv X pins σ (upd H s.heap.objs.size (.tup [.int (i : Nat), x])) { s with heap := h3, toks := tk + 1 } :=
      I.turnedNew (ch := [e, it]) (fun b o hb q => (sb.2 b (fun z => hb (by simp [z]))).trans (k b o (fun z => hb (by simp [z])) (fun z => hb (by simp [z])) q)) hf (Nat.le_refl _) new
    refine ⟨.ref s.heap.objs.size, _, I2, rfl, ⟨_, x, rfl, I.hok.fresh (Nat.le_refl _), rfl, fun ys hy => by rw [I.tuple_inj hy hq]; exact hx⟩, ⟨⟨y, ?_⟩, st2.1.at fun o q => (sb.2 it (Ne.symm n1)).trans q, n1, n2, n3⟩, fun b hb => ?_⟩
    · rw [show ((i + 1 : Nat) : Int) = (i : Int) + 1 by omega]; exact ie
    · have lb : b < s.heap.objs.size := by
        rcases (by simpa using hb : b = e ∨ b = it) with z | z
        · rw [z]; exact el
        · rw [z]; exact il
      rw [upd_ne (Nat.ne_of_lt lb)]; exact (hf b hb).1
  done := by
    intro X hP hw hK hc i pins s σ H E I hf st hg
    subst hP hw hK
    obtain ⟨⟨old, z1⟩, z2, n1, n2, n3⟩ := st
    obtain ⟨xs, hq, hx⟩ := hg
    obtain ⟨its, rv, pt, _⟩ := I.tuple hq
    obtain ⟨f0, f1, f2, f3, f4, f5⟩ := hf it (by simp)
    have ln := rv.length
    have dw := Draws.tuple (prog := X.prog) (w := X.w) (A := X.A.in1) (by simp [I.ok.hd hc]) it a n3 its.toArray
    have ei : i = its.toArray.size := by rw [List.size_toArray]; omega
    subst ei
    exact wpAny_pyNext_enum_endD dw z1 ⟨z2, pt⟩ fun h2 eb => ⟨rfl, I.turned (t' := s.toks) (fun b o hb q => eb b o hb q) f0 f1 f3 f4 f5⟩
  self := fun A i s Q E st h => let ⟨⟨_, z1⟩, _⟩ := st; wpAny_pyIter_enum z1 h
def iEnumT (K : PySem.W.Frag) (ta : TA) : TI := fun σ H R => ta σ H fun vs H1 => ∃ a xs, vs = [.ref a] ∧ SqT K H1 a xs ∧ R (IteT K a) H1
theorem pi_enumT {X : Cx} {e : Expr} {ta : TA} {p pos tpos : Pos} {elts : List Expr} {kk : Nat} (hg : Gl X "enumerate") (hm : X.mg "enumerate" = none) (ha : PA X [e] ta) (hs : starEach [e] X.env = [(false, eval e X.env)] := by rfl) :
    PI X (.Tuple elts kk tpos) (.Call (.Name "enumerate" p) [e] [] pos) (iEnumT X.K ta) := by
  refine ⟨fun pins s σ H R I h => Call_ (ld_blt I hg hm boot_enumerate (PyProof.Rows.callWith_type1 (thn (ha.run pos pins s σ H _ I h) fun us s1 ⟨vs, H1, I1, r1, q1⟩ => ?_) hs rfl))⟩
  obtain ⟨a, xs, ex, hq, q⟩ := q1
  subst ex
  cases r1 with | cons r rr =>
    cases rr; cases r
    obtain ⟨its, rv, pt, _⟩ := I1.tuple hq
    have la : a < s1.heap.objs.size := by obtain ⟨_, y, _⟩ := pt; exact Heap.lt_size y
    refine call_enum1 (begins_tuple a its.toArray) pt fun h2 ie gi k => wpAny_pyIter_enum ie ?_
    have I2 : Inv X pins σ H1 { s1 with heap := h2 } := I1.kept (t' := s1.toks) k
    refine ⟨s1.heap.objs.size + 1, [s1.heap.objs.size + 1, s1.heap.objs.size], _, _, H1, rfl, I2, turn_enumT a (s1.heap.objs.size + 1) s1.heap.objs.size, ⟨⟨.none, ie⟩, ⟨_, gi, rfl, rfl⟩, Nat.succ_ne_self _, Nat.ne_of_gt (Nat.lt_succ_of_lt la), Nat.ne_of_lt la⟩, fun b hb => ?_, q⟩
    have lb : s1.heap.objs.size ≤ b := by
      rcases (by simpa using hb : b = s1.heap.objs.size + 1 ∨ b = s1.heap.objs.size) with z | z
      · rw [z]; exact Nat.le_add_right _ _
      · rw [z]; exact Nat.le_refl _
    exact I1.fpOk lb (I1.hok.fresh lb)
/-! ### zip of three tuples -/
def ItzT3 (K : PySem.W.Frag) (a b c : Addr) : It :=
  ⟨fun i H => ∃ (xs ys zs : List V) (x y z : V), SqT K H a xs ∧ SqT K H b ys ∧ SqT K H c zs ∧ xs[i]? = some x ∧ ys[i]? = some y ∧ zs[i]? = some z,
    fun i H v H' => ∃ T x y z, v = .ref T ∧ H T = none ∧ H' = upd H T (.tup [x, y, z]) ∧ (∀ xs, SqT K H a xs → xs[i]? = some x) ∧ (∀ ys, SqT K H b ys → ys[i]? = some y) ∧ ∀ zs, SqT K H c zs → zs[i]? = some z,
    fun i H => ∃ xs ys zs : List V, SqT K H a xs ∧ SqT K H b ys ∧ SqT K H c zs ∧ xs.length = i ∧ ys.length = i ∧ zs.length = i⟩
theorem pick {its : List Value} {i : Nat} {u y : Value} (hu : its[i]? = some u) (hy : its.toArray[i]? = some y) : y = u := by
  rw [List.getElem?_toArray, hu] at hy
  exact (Option.some.inj hy).symm
theorem turn_zip3 {P : Program} {w : World} {K : PySem.W.Frag} {elts : List Expr} {kk : Nat} {tpos : Pos} {a b c z TI TO i1 i2 i3 : Addr} (D : ZipSep3 z TI TO i1 i2 i3 [i1, a] [i2, b] [i3, c]) (na : a ≠ i1) (nb : b ≠ i2) (nc : c ≠ i3) :
    Turn P w K (.Tuple elts kk tpos) (ItzT3 K a b c) [z, TI, TO, i1, i2, i3] z (fun i h => IsZip h z TI TO .none ∧ IsTupOf3 h TI (.ref i1) (.ref i2) (.ref i3) ∧ (∃ x y u, IsTupOf3 h TO x y u) ∧ h.IsTupleIter i1 a i ∧ h.IsTupleIter i2 b i ∧ h.IsTupleIter i3 c i) where
  mem := by simp
  obj := fun i h st m hm => by
    obtain ⟨hz, hTI, ⟨x, y, u, hTO⟩, ⟨o1, e1, _, d1⟩, ⟨o2, e2, _, d2⟩, ⟨o3, e3, _, d3⟩⟩ := st
    rcases (by simpa using hm : m = z ∨ m = TI ∨ m = TO ∨ m = i1 ∨ m = i2 ∨ m = i3) with q | q | q | q | q | q
    · rw [q]; exact ⟨_, hz, fun v q => nomatch q⟩
    · rw [q]; exact ⟨_, hTI, fun v q => nomatch q⟩
    · rw [q]; exact ⟨_, hTO, fun v q => nomatch q⟩
    · rw [q]; exact ⟨o1, e1, fun v q => by rw [d1] at q; cases q⟩
    · rw [q]; exact ⟨o2, e2, fun v q => by rw [d2] at q; cases q⟩
    · rw [q]; exact ⟨o3, e3, fun v q => by rw [d3] at q; cases q⟩
  keep := fun i h h' st k => by
    obtain ⟨hz, hTI, ⟨x, y, u, hTO⟩, h1, h2, h3⟩ := st
    exact ⟨k z (by simp) _ hz, k TI (by simp) _ hTI, ⟨x, y, u, k TO (by simp) _ hTO⟩, h1.at fun o q => k i1 (by simp) o q, h2.at fun o q => k i2 (by simp) o q, h3.at fun o q => k i3 (by simp) o q⟩
  item := by
    intro X hP hw hK hc i pins s σ H E I hf st hg
    subst hP hw hK
    obtain ⟨hz, hTI, ⟨x0, y0, u0, hTO⟩, h1, h2, h3⟩ := st
    obtain ⟨xs, ys, zs, x, y, t, hqx, hqy, hqz, hx, hy, ht⟩ := hg
    obtain ⟨its, rv, p1, _⟩ := I.tuple hqx; obtain ⟨jts, rw2, p2, _⟩ := I.tuple hqy; obtain ⟨kts, rw3, p3, _⟩ := I.tuple hqz
    obtain ⟨u1, hu1, ru1⟩ := rv.get hx; obtain ⟨u2, hu2, ru2⟩ := rw2.get hy; obtain ⟨u3, hu3, ru3⟩ := rw3.get ht
    have l1 : i < its.length := (List.getElem?_eq_some_iff.mp hu1).1; have l2 : i < jts.length := (List.getElem?_eq_some_iff.mp hu2).1; have l3 : i < kts.length := (List.getElem?_eq_some_iff.mp hu3).1
    have nh : X.A.in1.handled = none := by simp [I.ok.hd hc]
    have dw1 := Draws.tuple (prog := X.prog) (w := X.w) (A := X.A.in1) nh i1 a na its.toArray
    have dw2 := Draws.tuple (prog := X.prog) (w := X.w) (A := X.A.in1) nh i2 b nb jts.toArray
    have dw3 := Draws.tuple (prog := X.prog) (w := X.w) (A := X.A.in1) nh i3 c nc kts.toArray
    have zl : z < s.heap.objs.size := Heap.lt_size hz
    refine wpAny_pyNext_zipD3_item D dw1 dw2 dw3 hz hTI hTO ⟨h1, p1⟩ ⟨h2, p2⟩ ⟨h3, p3⟩ (by simpa using l1) (by simpa using l2) (by simpa using l3) fun v1 v2 v3 g tk q1 q2 q3 z' TO' s1 s2 s3 hT sz k => ?_
    have e1 := pick hu1 q1; have e2 := pick hu2 q2; have e3 := pick hu3 q3
    subst e1; subst e2; subst e3
    refine ⟨_, rfl, wpAny_letOwnedTupleGo_zip (s := { s with heap := g, toks := tk }) z' fun g2 z'' sb => ?_⟩
    have hT2 : g2.get? s.heap.objs.size = some { cls := .type "tuple", data := .seq #[v1, v2, v3] } := (sb.2 _ (Nat.ne_of_gt zl)).trans hT
    have new : ObjOk X.prog X.w (upd H s.heap.objs.size (.tup [x, y, t])) g2 s.heap.objs.size (.tup [x, y, t]) :=
      ⟨by show 3 ≤ sizeLine; decide, [v1, v2, v3], .cons ru1 (.cons ru2 (.cons ru3 .nil)), ⟨_, hT2, rfl, _, rfl⟩⟩
    have I2 : Inv X pins σ (upd H s.heap.objs.size (.tup [x, y, t])) { s with heap := g2, toks := tk } :=
      I.turnedNew (t' := tk) (ch := [z, TI, TO, i1, i2, i3]) (fun m o hb q => (sb.2 m (fun q' => hb (by simp [q']))).trans (k m o (fun q' => hb (by simp [q'])) (fun q' => hb (by simp [q'])) (fun q' => hb (by simp [q'])) (fun q' => hb (by simp [q'])) (fun q' => hb (by simp [q'])) q)) hf (Nat.le_refl _) new
    refine ⟨.ref s.heap.objs.size, _, I2, rfl, ⟨_, x, y, t, rfl, I.hok.fresh (Nat.le_refl _), rfl, fun l hl => by rw [I.tuple_inj hl hqx]; exact hx, fun l hl => by rw [I.tuple_inj hl hqy]; exact hy, fun l hl => by rw [I.tuple_inj hl hqz]; exact ht⟩, ⟨z'', ?_, ⟨v1, v2, v3, ?_⟩, ?_, ?_, ?_⟩, fun m hm => ?_⟩
    · exact (sb.2 _ D.TIz).trans (k _ _ D.TIz D.TITO D.TIi1 D.TIi2 D.TIi3 hTI)
    · exact (sb.2 _ D.TOz).trans TO'
    · exact s1.1.at fun o q => (sb.2 _ D.zi1.symm).trans q
    · exact s2.1.at fun o q => (sb.2 _ D.zi2.symm).trans q
    · exact s3.1.at fun o q => (sb.2 _ D.zi3.symm).trans q
    · have lm : m < s.heap.objs.size := by
        rcases (by simpa using hm : m = z ∨ m = TI ∨ m = TO ∨ m = i1 ∨ m = i2 ∨ m = i3) with q | q | q | q | q | q
        · rw [q]; exact zl
        · rw [q]; exact Heap.lt_size hTI
        · rw [q]; exact Heap.lt_size hTO
        · rw [q]; obtain ⟨_, w1, _⟩ := h1; exact Heap.lt_size w1
        · rw [q]; obtain ⟨_, w1, _⟩ := h2; exact Heap.lt_size w1
        · rw [q]; obtain ⟨_, w1, _⟩ := h3; exact Heap.lt_size w1
      rw [upd_ne (Nat.ne_of_lt lm)]; exact (hf m hm).1
  done := by
    intro X hP hw hK hc i pins s σ H E I hf st hg
    subst hP hw hK
    obtain ⟨hz, hTI, ⟨x0, y0, u0, hTO⟩, h1, h2, h3⟩ := st
    obtain ⟨xs, ys, zs, hqx, hqy, hqz, ln1, ln2, ln3⟩ := hg
    obtain ⟨its, rv, p1, _⟩ := I.tuple hqx; obtain ⟨jts, rw2, p2, _⟩ := I.tuple hqy; obtain ⟨kts, rw3, p3, _⟩ := I.tuple hqz
    have m1 := rv.length; have m2 := rw2.length; have m3 := rw3.length
    have nh : X.A.in1.handled = none := by simp [I.ok.hd hc]
    have dw1 := Draws.tuple (prog := X.prog) (w := X.w) (A := X.A.in1) nh i1 a na its.toArray
    have dw2 := Draws.tuple (prog := X.prog) (w := X.w) (A := X.A.in1) nh i2 b nb jts.toArray
    have dw3 := Draws.tuple (prog := X.prog) (w := X.w) (A := X.A.in1) nh i3 c nc kts.toArray
    exact wpAny_pyNext_zipD3_end D dw1 dw2 dw3 hz hTI hTO ⟨h1, p1⟩ ⟨h2, p2⟩ ⟨h3, p3⟩ (by simp; omega) (by simp; omega) (by simp; omega) (.inl (by simp; omega)) fun g tk k => ⟨rfl, I.turnedL (t' := tk) (ch := [z, TI, TO, i1, i2, i3]) (fun m o hb q =>
      k m o (fun q' => hb (by simp [q'])) (fun q' => hb (by simp [q'])) (fun q' => hb (by simp [q'])) (fun q' => hb (by simp [q'])) (fun q' => hb (by simp [q'])) q) hf⟩
  self := fun A i s Q E st h => wpAny_pyIter_zip st.1 h
def iZip3 (K : PySem.W.Frag) (ta : TA) : TI := fun σ H R => ta σ H fun vs H1 => ∃ a b c xs ys zs, vs = [.ref a, .ref b, .ref c] ∧ SqT K H1 a xs ∧ SqT K H1 b ys ∧ SqT K H1 c zs ∧ R (ItzT3 K a b c) H1
theorem pi_zip3 {X : Cx} {e e2 e3 : Expr} {ta : TA} {p pos tpos : Pos} {elts : List Expr} {kk : Nat} (hg : Gl X "zip") (hm : X.mg "zip" = none) (ha : PA X [e, e2, e3] ta)
    (hs : starEach [e, e2, e3] X.env = (false, eval e X.env) :: starEach [e2, e3] X.env := by rfl) (hpl : (backTo pos (starEach [e2, e3] X.env)).any (·.1) = false := by rfl) :
    PI X (.Tuple elts kk tpos) (.Call (.Name "zip" p) [e, e2, e3] [] pos) (iZip3 X.K ta) := by
  refine ⟨fun pins s σ H R I h => Call_ (ld_blt I hg hm PyProof.Rows.boot_zip (PyProof.Rows.callWith_type1 (thn (ha.run pos pins s σ H _ I h) fun us s1 ⟨vs, H1, I1, r1, q1⟩ => ?_) hs hpl))⟩
  obtain ⟨a, b, c, xs, ys, zs, ex, hqa, hqb, hqc, q⟩ := q1
  subst ex
  cases r1 with | cons ra r1 => cases r1 with | cons rb r1 => cases r1 with | cons rc r1 =>
    cases r1; cases ra; cases rb; cases rc
    obtain ⟨its, _, p1, _⟩ := I1.tuple hqa; obtain ⟨jts, _, p2, _⟩ := I1.tuple hqb; obtain ⟨kts, _, p3, _⟩ := I1.tuple hqc
    have la : a < s1.heap.objs.size := by obtain ⟨_, y, _⟩ := p1; exact Heap.lt_size y
    have lb : b < s1.heap.objs.size := by obtain ⟨_, y, _⟩ := p2; exact Heap.lt_size y
    have lc : c < s1.heap.objs.size := by obtain ⟨_, y, _⟩ := p3; exact Heap.lt_size y
    refine zip_begins3 (begins_tuple a its.toArray) (begins_tuple b jts.toArray) (begins_tuple c kts.toArray) p1 p2 p3 fun g hz hTI hTO g1 g2 g3 _ k => wpAny_pyIter_zip hz ?_
    have I2 : Inv X pins σ H1 { s1 with heap := g } := I1.kept (t' := s1.toks) k
    have sep : ZipSep3 (s1.heap.objs.size + 5) (s1.heap.objs.size + 3) (s1.heap.objs.size + 4) s1.heap.objs.size (s1.heap.objs.size + 1) (s1.heap.objs.size + 2) [s1.heap.objs.size, a] [s1.heap.objs.size + 1, b] [s1.heap.objs.size + 2, c] :=
      zip_sep3 (fp1 := [a]) (fp2 := [b]) (fp3 := [c]) (by simpa using la) (by simpa using lb) (by simpa using lc)
    refine ⟨s1.heap.objs.size + 5, [s1.heap.objs.size + 5, s1.heap.objs.size + 3, s1.heap.objs.size + 4, s1.heap.objs.size, s1.heap.objs.size + 1, s1.heap.objs.size + 2], _, _, H1, rfl, I2, turn_zip3 sep (Nat.ne_of_lt la) (Nat.ne_of_lt (Nat.lt_succ_of_lt lb)) (Nat.ne_of_lt (Nat.lt_succ_of_lt (Nat.lt_succ_of_lt lc))), ⟨hz, hTI, ⟨_, _, _, hTO⟩, ⟨_, g1, rfl, rfl⟩, ⟨_, g2, rfl, rfl⟩, ⟨_, g3, rfl, rfl⟩⟩, fun m hm => ?_, q⟩
    have lm : s1.heap.objs.size ≤ m := by
      rcases (by simpa using hm : m = s1.heap.objs.size + 5 ∨ m = s1.heap.objs.size + 3 ∨ m = s1.heap.objs.size + 4 ∨ m = s1.heap.objs.size ∨ m = s1.heap.objs.size + 1 ∨ m = s1.heap.objs.size + 2) with z | z | z | z | z | z
      all_goals (rw [z]; first | exact Nat.le_add_right _ _ | exact Nat.le_refl _)
    exact I1.fpOk lm (I1.hok.fresh lm)
end Enz

set_option Elab.async false
set_option linter.all false
set_option maxRecDepth 100000
set_option maxHeartbeats 1000000
namespace Dat
open PySem PySem.Spec PyProof.Rows L2
theorem enumTQ {X : Cx} {K : PySem.W.Frag} [Tb K] {e : Expr} {ta : TA} {p pos tpos : Pos} {elts : List Expr} {kk : Nat} (hK : X.K = K) (hg : Gl X "enumerate") (hm : X.mg "enumerate" = none) (ha : PA X [e] ta) (hs : starEach [e] X.env = [(false, eval e X.env)] := by rfl) :
    PI X (.Tuple elts kk tpos) (.Call (.Name "enumerate" p) [e] [] pos) (Enz.iEnumT K ta) := by
  subst hK
  exact Enz.pi_enumT hg hm ha hs
theorem zip3Q {X : Cx} {K : PySem.W.Frag} [Tb K] {e e2 e3 : Expr} {ta : TA} {p pos tpos : Pos} {elts : List Expr} {kk : Nat} (hK : X.K = K) (hg : Gl X "zip") (hm : X.mg "zip" = none) (ha : PA X [e, e2, e3] ta)
    (hs : starEach [e, e2, e3] X.env = (false, eval e X.env) :: starEach [e2, e3] X.env := by rfl) (hpl : (backTo pos (starEach [e2, e3] X.env)).any (·.1) = false := by rfl) :
    PI X (.Tuple elts kk tpos) (.Call (.Name "zip" p) [e, e2, e3] [] pos) (Enz.iZip3 K ta) := by
  subst hK
  exact Enz.pi_zip3 hg hm ha hs hpl
def enumA (ds : List PyData) : List Av := (List.range ds.length).map fun k => .dat (.tuple [.int (k : Nat), ds.getD k .none])
def zipA (ds es : List PyData) : List Av := (List.range ds.length).map fun k => .dat (.tuple [ds.getD k .none, es.getD k .none])
def zip3A (ds es fs : List PyData) : List Av := (List.range ds.length).map fun k => .dat (.tuple [ds.getD k .none, es.getD k .none, fs.getD k .none])
section
variable {K : PySem.W.Frag} [Tb K] {Γ : List (Option Av)} {Ω : AH} {tl : TA} {ds es fs : List PyData}
theorem rng_at {β : Type} {n i : Nat} {f : Nat → β} {b : β} (h : ((List.range n).map f)[i]? = some b) : i < n ∧ b = f i := by
  rw [List.getElem?_map] at h
  by_cases hi : i < n
  · rw [List.getElem?_range hi] at h
    cases h
    exact ⟨hi, rfl⟩
  · rw [List.getElem?_eq_none (by rw [List.length_range]; omega)] at h
    cases h
theorem getD_dq {H : Hp} {vs : List V} {i : Nat} (g : DqAll K H vs ds) (hi : i < ds.length) : ∃ v, vs[i]? = some v ∧ Dq K H v (ds.getD i .none) := by
  rw [List.getD_eq_getElem?_getD]
  have e : ds[i]? = some ds[i] := List.getElem?_eq_getElem hi
  rw [e]
  exact g.get e
theorem walk_enumT {F : Hp} {a : Addr} {xs : List V} (h : SqT K F a xs) (g : DqAll K F xs ds) : WalkA K F (Enz.IteT K a) (enumA ds) := by
  constructor
  · intro Ω H k i b e
    obtain ⟨hi, rfl⟩ := rng_at e
    obtain ⟨v, ev, hv⟩ := getD_dq g hi
    refine ⟨⟨xs, v, sqT_same (k.fr.trans Fz_le) h, ev⟩, fun x H' hy => ?_⟩
    obtain ⟨T, x2, rfl, nT, rfl, f⟩ := hy
    have := f xs (sqT_same (k.fr.trans Fz_le) h)
    rw [ev] at this
    cases this
    exact ⟨same_new nT, .dat (tup_new k nT (.cons (.int _) (.cons (hv.same k.fr) .nil)))⟩
  · intro Ω H k
    exact ⟨xs, sqT_same (k.fr.trans Fz_le) h, by rw [g.length]; simp [enumA]⟩
theorem walk_zipT {F : Hp} {a b : Addr} {xs ys : List V} (h : SqT K F a xs) (g : DqAll K F xs ds) (h2 : SqT K F b ys) (g2 : DqAll K F ys es) (hl : ds.length = es.length) : WalkA K F (RZ.ItzT K a b) (zipA ds es) := by
  constructor
  · intro Ω H k i c e
    obtain ⟨hi, rfl⟩ := rng_at e
    obtain ⟨v, ev, hv⟩ := getD_dq g hi
    obtain ⟨u, eu, hu⟩ := getD_dq g2 (i := i) (by omega)
    refine ⟨⟨xs, ys, v, u, sqT_same (k.fr.trans Fz_le) h, sqT_same (k.fr.trans Fz_le) h2, ev, eu⟩, fun x H' hy => ?_⟩
    obtain ⟨T, x2, y2, rfl, nT, rfl, f, f2⟩ := hy
    have t1 := f xs (sqT_same (k.fr.trans Fz_le) h)
    have t2 := f2 ys (sqT_same (k.fr.trans Fz_le) h2)
    rw [ev] at t1
    rw [eu] at t2
    cases t1
    cases t2
    exact ⟨same_new nT, .dat (tup_new k nT (.cons (hv.same k.fr) (.cons (hu.same k.fr) .nil)))⟩
  · intro Ω H k
    exact ⟨xs, ys, sqT_same (k.fr.trans Fz_le) h, sqT_same (k.fr.trans Fz_le) h2, .inl (by rw [g.length]; simp [zipA])⟩
theorem walk_zip3 {F : Hp} {a b c : Addr} {xs ys zs : List V} (h : SqT K F a xs) (g : DqAll K F xs ds) (h2 : SqT K F b ys) (g2 : DqAll K F ys es) (h3 : SqT K F c zs) (g3 : DqAll K F zs fs) (hl : ds.length = es.length) (hl2 : ds.length = fs.length) : WalkA K F (Enz.ItzT3 K a b c) (zip3A ds es fs) := by
  constructor
  · intro Ω H k i m e
    obtain ⟨hi, rfl⟩ := rng_at e
    obtain ⟨v, ev, hv⟩ := getD_dq g hi
    obtain ⟨u, eu, hu⟩ := getD_dq g2 (i := i) (by omega)
    obtain ⟨t, et, ht⟩ := getD_dq g3 (i := i) (by omega)
    refine ⟨⟨xs, ys, zs, v, u, t, sqT_same (k.fr.trans Fz_le) h, sqT_same (k.fr.trans Fz_le) h2, sqT_same (k.fr.trans Fz_le) h3, ev, eu, et⟩, fun x H' hy => ?_⟩
    obtain ⟨T, x2, y2, z2, rfl, nT, rfl, f, f2, f3⟩ := hy
    have t1 := f xs (sqT_same (k.fr.trans Fz_le) h)
    have t2 := f2 ys (sqT_same (k.fr.trans Fz_le) h2)
    have t3 := f3 zs (sqT_same (k.fr.trans Fz_le) h3)
    rw [ev] at t1
    rw [eu] at t2
    rw [et] at t3
    cases t1
    cases t2
    cases t3
    exact ⟨same_new nT, .dat (tup_new k nT (.cons (hv.same k.fr) (.cons (hu.same k.fr) (.cons (ht.same k.fr) .nil))))⟩
  · intro Ω H k
    have := g.length
    have := g2.length
    have := g3.length
    refine ⟨xs, ys, zs, sqT_same (k.fr.trans Fz_le) h, sqT_same (k.fr.trans Fz_le) h2, sqT_same (k.fr.trans Fz_le) h3, ?_, ?_, ?_⟩ <;> (simp [zip3A]; omega)
theorem i_enumT {P : List Av → AH → Prop} (h : AW K tl Γ Ω fun as Ω1 => ∃ ds, as = [.dat (.tuple ds)] ∧ P (enumA ds) Ω1) : IW K (Enz.iEnumT K tl) Γ Ω P := fun F σ H R k q =>
  h F σ H _ k fun as vs Ω1 H1 ⟨ds, e, hp⟩ k1 v1 => by
    subst e
    cases v1 with | cons va v1 => cases v1; cases va with | dat va => cases va with | tup hs g =>
      exact ⟨_, _, rfl, sqT_same Fz_le hs, q _ _ _ _ hp k1 (walk_enumT hs g)⟩
theorem i_zipT {P : List Av → AH → Prop} (h : AW K tl Γ Ω fun as Ω1 => ∃ ds es, as = [.dat (.tuple ds), .dat (.tuple es)] ∧ ds.length = es.length ∧ P (zipA ds es) Ω1) : IW K (RZ.iZipA K tl) Γ Ω P := fun F σ H R k q =>
  h F σ H _ k fun as vs Ω1 H1 ⟨ds, es, e, hl, hp⟩ k1 v1 => by
    subst e
    cases v1 with | cons va v1 => cases v1 with | cons vb v1 => cases v1; cases va with | dat va => cases vb with | dat vb => cases va with | tup hs g => cases vb with | tup hs2 g2 =>
      exact ⟨_, _, _, _, rfl, .inr ⟨sqT_same Fz_le hs, sqT_same Fz_le hs2, q _ _ _ _ hp k1 (walk_zipT hs g hs2 g2 hl)⟩⟩
theorem i_zip3 {P : List Av → AH → Prop} (h : AW K tl Γ Ω fun as Ω1 => ∃ ds es fs, as = [.dat (.tuple ds), .dat (.tuple es), .dat (.tuple fs)] ∧ ds.length = es.length ∧ ds.length = fs.length ∧ P (zip3A ds es fs) Ω1) : IW K (Enz.iZip3 K tl) Γ Ω P := fun F σ H R k q =>
  h F σ H _ k fun as vs Ω1 H1 ⟨ds, es, fs, e, hl, hl2, hp⟩ k1 v1 => by
    subst e
    cases v1 with | cons va v1 => cases v1 with | cons vb v1 => cases v1 with | cons vc v1 => cases v1; cases va with | dat va => cases vb with | dat vb => cases vc with | dat vc => cases va with | tup hs g => cases vb with | tup hs2 g2 => cases vc with | tup hs3 g3 =>
      exact ⟨_, _, _, _, _, _, rfl, sqT_same Fz_le hs, sqT_same Fz_le hs2, sqT_same Fz_le hs3, q _ _ _ _ hp k1 (walk_zip3 hs g hs2 g2 hs3 g3 hl hl2)⟩
/-! range(i, j, -1) -/
def rngC (lo c : Int) (n : Nat) : List Av := (List.range n).map fun k => .dat (.int (lo + (k : Nat) * c))
theorem walk_rc {F : Hp} (lo c : Int) (n : Nat) : WalkA K F (Itc lo c n) (rngC lo c n) := by
  constructor
  · intro Ω H k i b e
    obtain ⟨hi, rfl⟩ := rng_at e
    exact ⟨hi, fun x H' hy => by
      obtain ⟨rfl, rfl⟩ := hy
      exact ⟨Same.refl _, .dat (.int _)⟩⟩
  · intro Ω H k
    show n ≤ (rngC lo c n).length
    simp [rngC]
theorem i_rngD {P : List Av → AH → Prop} (h : AW K tl Γ Ω fun as Ω1 => ∃ i j : Int, as = [.dat (.int i), .dat (.int j), .dat (.int (-1))] ∧ (-(2 ^ 62) ≤ i ∧ i < 2 ^ 62 ∧ -(2 ^ 62) ≤ j ∧ j < 2 ^ 62) ∧ P (rngC i (-1) (i - j).toNat) Ω1) : IW K (iRng3 tl) Γ Ω P := fun F σ H R k q =>
  h F σ H _ k fun as vs Ω1 H1 ⟨i, j, e, b, hp⟩ k1 v1 => by
    subst e
    cases v1 with | cons va v1 => cases v1 with | cons vb v1 => cases v1 with | cons vc v1 => cases v1; cases va with | dat va => cases vb with | dat vb => cases vc with | dat vc =>
      cases va
      cases vb
      cases vc
      exact ⟨i, j, -1, _, rfl, RgC.neg b.1 b.2.1 b.2.2.1 b.2.2.2, q _ _ _ _ hp k1 (walk_rc i (-1) _)⟩
/-! lists held alone -/
variable {p : Addr} {P : Av → AH → Prop} {t : TS} {E : EndA} {te : TE}
theorem s_forget (e : Ω p = some (ds.map .dat)) (h : SW K t Γ (del Ω p) E) : SW K t Γ Ω E := fun F σ H D k e' => h F σ H D (k.frz e).1 e'
theorem e_slP {tl th : TO} (h : EW K te Γ Ω fun a Ω1 => ∃ p ds, a = .ptr p ∧ Ω1 p = some (ds.map .dat) ∧ OW K tl Γ Ω1 fun lo Ω2 => Ω2 = Ω1 ∧ OW K th Γ Ω2 fun hi Ω3 => Ω3 = Ω1 ∧ P (.dat (.list (cutD ds lo hi))) Ω3) : EW K (tSl (rSlL K) te tl th) Γ Ω P := fun F σ H Q k q =>
  h F σ H _ k fun a v Ω1 H1 ⟨p, ds, e, o, h1⟩ k1 v1 => by
    subst e
    cases v1
    refine h1 (Fz Ω1 H1) σ H1 _ k1.re fun lo Ω2 H2 ⟨e2, h2⟩ k2 => ?_
    subst e2
    refine h2 _ σ H2 _ k2.re fun hi Ω3 H3 ⟨e3, h3⟩ k3 => ?_
    subst e3
    obtain ⟨xs, hx, g⟩ := k3.st p _ o
    exact ⟨_, _, rfl, SqL.of hx, fun u nu => q _ _ _ _ h3 ((k3.anchor (k1.fr.trans k2.fr)).same (same_new nu)) (.dat (lst_new k3 nu (g.dats.cut lo hi)))⟩
/-- [x] * n -/
theorem r_repL {k : Int} (h1 : 0 ≤ k) (h2 : k ≤ 10000) (hl : ds.length ≤ 5) (h : P (.dat (.list (List.replicate k.toNat ds).flatten)) Ω) : R2W K rRep (.dat (.list ds)) (.dat (.int k)) Ω P := fun F H x y Q kk hx hy q => by
  cases hx with | dat hx => cases hy with | dat hy =>
    cases hy
    cases hx with | lst hs g =>
      have l := g.length
      have z : ds.length * k.toNat ≤ 5 * 10000 := Nat.mul_le_mul hl (by omega)
      refine ⟨_, k, _, rfl, rfl, Fz_le _ _ hs, by omega, by omega, by rw [l]; exact sz_of (by omega), fun u nu => q _ _ _ _ h (kk.same (same_new nu)) (.dat (lst_new kk nu (dqAll_flat' g _)))⟩
theorem flat_one {α : Type} (x : α) : ∀ n : Nat, (List.replicate n [x]).flatten = List.replicate n x
  | 0 => rfl
  | n + 1 => by rw [List.replicate_succ, List.flatten_cons, flat_one x n, List.replicate_succ]; rfl
/-- a new list that changes no more -/
theorem frzNew {L : List PyData} (h : P (.dat (.list L)) Ω) : ∀ q, Ω q = none → (fun a Ω' => ∃ p ds, a = .ptr p ∧ Ω' p = some (ds.map .dat) ∧ P (.dat (.list ds)) (del Ω' p)) (Av.ptr q) (put Ω q (L.map .dat)) := fun q nq =>
  ⟨q, L, rfl, put_same, by rw [del_put nq]; exact h⟩
end
end Dat

set_option Elab.async false
set_option linter.all false
set_option maxRecDepth 100000
set_option maxHeartbeats 1000000
namespace Dat
open PySem PySem.Spec PyProof.Rows L2
section
variable {K : PySem.W.Frag} [Tb K]
theorem r_ixL_any {Ω : AH} {ds : List PyData} {v : Int} {P : Av → AH → Prop} (h0 : 0 ≤ v) (h1 : v < ds.length) (h : ∀ d ∈ ds, P (.dat d) Ω) : R2W K (rIxL K) (.dat (.list ds)) (.dat (.int v)) Ω P := by
  obtain ⟨n, rfl⟩ : ∃ n : Nat, v = n := ⟨v.toNat, (Int.toNat_of_nonneg h0).symm⟩
  have hn : n < ds.length := by omega
  exact r_ixL (atI_nat' (List.getElem?_eq_getElem hn)) (h _ (List.getElem_mem hn))
def intsOf (ds : List PyData) : List Int := ds.map fun | .int i => i | _ => 0
theorem r_ixL_ints {Ω : AH} {ds : List PyData} {v : Int} {P : Av → AH → Prop} (lo hi : Int) (e : ds = (intsOf ds).map PyData.int) (hb : ∀ n ∈ intsOf ds, lo ≤ n ∧ n ≤ hi) (h0 : 0 ≤ v) (h1 : v < ds.length)
    (h : ∀ n, lo ≤ n → n ≤ hi → P (.dat (.int n)) Ω) : R2W K (rIxL K) (.dat (.list ds)) (.dat (.int v)) Ω P :=
  r_ixL_any h0 h1 fun d hd => by
    rw [e] at hd
    obtain ⟨n, hn, rfl⟩ := List.mem_map.mp hd
    exact h n (hb n hn).1 (hb n hn).2
/-- a literal list of numbers -/
def tLits : List Int → TA
  | [] => tNil
  | n :: r => tCons (tC (.int n)) (tLits r)
theorem a_lits {Γ : List (Option Av)} {Ω : AH} : ∀ (ns : List Int) {P : List Av → AH → Prop}, P ((ns.map PyData.int).map .dat) Ω → AW K (tLits ns) Γ Ω P
  | [], _, h => a_nil h
  | n :: r, _, h => a_cons (e_int (a_lits r h))
theorem e_lits {Γ : List (Option Av)} {Ω : AH} {P : Av → AH → Prop} (ns : List Int) (h : P (.dat (.list (ns.map PyData.int))) Ω) (hl : Nat.ble ns.length 100000 = true := by rfl) : EW K (tLst (tLits ns)) Γ Ω P :=
  e_lst (a_lits ns ⟨_, rfl, by rw [List.length_map]; exact Nat.le_of_ble_eq_true hl, h⟩)
theorem put_comm {Ω : AH} {p q : Addr} {as bs : List Av} (h : p ≠ q) : put (put Ω p as) q bs = put (put Ω q bs) p as := by
  refine AH.ext (fun a => ?_) rfl
  unfold put
  dsimp only
  by_cases e1 : a = q
  · by_cases e2 : a = p
    · exact absurd (e2.symm.trans e1) h
    · rw [if_pos e1, if_neg e2, if_pos e1]
  · rw [if_neg e1, if_neg e1]
end
end Dat

set_option Elab.async false
set_option linter.all false
set_option maxRecDepth 100000
set_option maxHeartbeats 1000000
/-! lambdas that hold data, handed to defs of the text -/
namespace Dat
open PySem PySem.Spec PyProof.Rows L2 LamX NdefX Clo
abbrev LSp := List PyData → ASp
def spL (K : PySem.W.Frag) [Tb K] (sp : LSp) : List (Option V) → Sp := fun ws vs H Q _ => ∃ (F : Hp) (Ω : AH) (as : List Av) (P : Av → AH → Prop) (cap : List (V × PyData)), Ok K F Ω [] [] H ∧ VAll K (Fz Ω H) as vs ∧ ws = cap.map (fun c => some c.1) ∧
  (∀ c ∈ cap, Dq K (Fz Ω H) c.1 c.2) ∧ sp (cap.map (·.2)) as Ω P ∧ ∀ a v Ω' H', P a Ω' → Ok K F Ω' [] [] H' → VOk K (Fz Ω' H') a v → Q v H'
/-- what a def promises that is given a lambda -/
abbrev CSp := Addr → Addr → List (V × PyData) → ASp
def spCl (K : PySem.W.Frag) [Tb K] (sp : CSp) (f c' : Addr) : List (Option V) → Sp := fun ws vs H Q _ => ∃ (F : Hp) (Ω : AH) (as : List Av) (P : Av → AH → Prop) (cap : List (V × PyData)), Ok K F Ω [] [] H ∧ VAll K (Fz Ω H) as vs ∧ ws = cap.map (fun c => some c.1) ∧
  sp f c' cap as Ω P ∧ ∀ a v Ω' H', P a Ω' → Ok K F Ω' [] [] H' → VOk K (Fz Ω' H') a v → Q v H'
theorem Slots.app {K : PySem.W.Frag} {F : Hp} : ∀ {Γ Γ2 : List (Option Av)} {σ σ2 : List (Option V)}, Slots K F Γ σ → Slots K F Γ2 σ2 → Slots K F (Γ ++ Γ2) (σ ++ σ2)
  | _, _, _, _, .nil, h => h
  | _, _, _, _, .no g, h => .no (Slots.app g h)
  | _, _, _, _, .yes v g, h => .yes v (Slots.app g h)
theorem Slots.ofAll {K : PySem.W.Frag} {F : Hp} : ∀ {as : List Av} {vs : List V}, VAll K F as vs → Slots K F (as.map some) (vs.map some)
  | _, _, .nil => .nil
  | _, _, .cons h g => .yes h (Slots.ofAll g)
theorem Slots.ofCap {K : PySem.W.Frag} {F : Hp} : ∀ {cap : List (V × PyData)}, (∀ c ∈ cap, Dq K F c.1 c.2) → Slots K F ((cap.map (·.2)).map fun d => some (Av.dat d)) (cap.map fun c => some c.1)
  | [], _ => .nil
  | c :: r, h => .yes (.dat (h c (List.mem_cons_self ..))) (Slots.ofCap fun x m => h x (List.mem_cons_of_mem _ m))
theorem Slots.rep {K : PySem.W.Frag} {F : Hp} : ∀ n : Nat, Slots K F (List.replicate n none) (List.replicate n none)
  | 0 => .nil
  | n + 1 => .no (Slots.rep n)
section
variable {P : Program} {w : World} {K : PySem.W.Frag} [Tb K] {mg : Str → Option Value} {base : Heap}
theorem lokA_of {N ps fr : List Str} {F : NF} {f : Addr} {k : Nat} {sp : LSp} {body : Expr} (S : NScope N ps fr F.scope) (hb : ∀ (pm ctv : Value) (us : List Value), us.length = ps.length → bindArgs (PySem.W.kla_fn F.name F.qual F.params body F.scope F.cl pm (.ref F.c) ctv) ⟨us, []⟩ = pure (ps.zip us))
    (len : ∀ cs as Ω P, sp cs as Ω P → as.length = ps.length)
    (hbody : ∀ (A : Around) (outer : List Env) (s : Shared) (H : Hp) (E : XK), Room k (A.deeper (envF F f s.heap.objs.size)) →
      ∃ t, PE (ncx CX0 P w K mg base N F f A outer s H E) body t ∧ ∀ cs as Ω P, sp cs as Ω P → EW K t (as.map some ++ ((cs.map fun d => some (Av.dat d)) ++ List.replicate (N.length - as.length - cs.length) none)) Ω P) :
    LOk P w K mg base CX0 (k + 1) f F body ps fr (spL K sp) := by
  refine lok_of S hb (fun ws vs H Q E h => ?_) (fun A outer s H vs ws Q E hr hl h => ?_)
  · obtain ⟨F0, Ω, as, P, cap, k0, va, ew, g, h, q⟩ := h
    exact va.length.trans (len _ _ _ _ h)
  · obtain ⟨t, ht, hs⟩ := hbody A outer s H E hr
    obtain ⟨F0, Ω, as, P, cap, k0, va, rfl, g, h, q⟩ := h
    refine ⟨t, ht, hs _ as Ω P h F0 _ H Q ⟨k0.fr, k0.st, ?_, k0.tb, k0.ob⟩ fun a v Ω' H' hp k' hv => q a v Ω' H' hp k'.bare hv⟩
    unfold startF
    rw [va.length, List.length_map, List.length_map]
    exact (Slots.ofAll va).app ((Slots.ofCap g).app (Slots.rep _))
theorem fncA_of {x qual : Str} {st : Stmt} {g : Addr} {gd : FuncData} {N ps : List Str} {cl : List (Str × Addr)} {fr : List Str} {k : Nat} {sp : CSp} {f c' : Addr} (F : L2.Fun K x qual st g gd) (S : FnScope N ps (defScope st))
    (hbody : ∀ (cap : List (V × PyData)) (cdv : Value) (A : Around) (outer : List Env) (s : Shared) (H : Hp) (E : XK), Room k (A.deeper (envOfC qual (defScope st) s.heap.objs.size g cdv)) → CellsAt cl fr (cap.map fun c => some c.1) s.heap H →
      ∃ t, PSs (cxOf CX0 P w K mg base N qual (defScope st) g cdv A outer s H E).nox (defBody st) t ∧ ∀ as Ω P, sp f c' cap as Ω P → SW K t (as.map some ++ List.replicate (N.length - as.length) none) Ω { nx := fun _ Ω' => P (.dat .none) Ω', rt := P }) :
    FnC P w K mg base CX0 (k + 1) g gd ps cl fr (spCl K sp f c') := by
  refine fnc_of F S fun cdv A outer s H vs ws Q E hr C h => ?_
  obtain ⟨F0, Ω, as, P, cap, k0, va, rfl, h, q⟩ := h
  obtain ⟨t, ht, hs⟩ := hbody cap cdv A outer s H E hr C
  refine ⟨t, ht, hs as Ω P h F0 (L2.start N vs) H _ ⟨k0.fr, k0.st, ?_, k0.tb, k0.ob⟩ ⟨fun Γ' σ' Ω' H' hp k' => q _ _ _ _ hp k'.bare (.dat .non), fun a v Ω' H' hp k' hv => q _ _ _ _ hp k' hv, fun _ _ _ _ z => z.elim, fun _ _ _ _ z => z.elim⟩⟩
  unfold L2.start
  rw [va.length]
  exact Slots.start (N := N) va _
/-- a def whose code object is known -/
structure DefC (K : PySem.W.Frag) (mg : Str → Option Value) (x : Str) (st : Stmt) (ps : List Str) (dvs : List V) (f : Addr) (fd : FuncData) (cw : Addr) : Prop where
  ex : ∃ (oc : Value) (od : Option Addr) (dV kV doc pm : Value) (an : Option Addr) (ct : Value) (osl : Array (Option Value)), fd = PySem.W.fnOf x x (defArgs st) (defBody st) (defScope st) dV kV doc pm an (.ref cw) ct ∧ K.lookup f = some ⟨oc, od, .func fd, osl⟩ ∧ PySem.W.codeIn K (.ref cw) x = true
  g : mg x = some (.ref f)
  kp : PySem.W.keepIn K (.ref f) = true
  b : ∃ ds, Vals dvs ds ∧ Binds K fd ps ds
theorem fnA_okC {x : Str} {st : Stmt} {f : Addr} {fd : FuncData} {N ps : List Str} {dvs : List V} {k : Nat} {sp : ASp} {cw : Addr} (D : DefC K mg x st ps dvs f fd cw) (S : FnScope N ps (defScope st)) (len : ∀ as Ω P, sp as Ω P → as.length = ps.length)
    (hbody : ∀ (A : Around) (outer : List Env) (s : Shared) (H : Hp) (E : XK), Room k (A.deeper (envOfC x (defScope st) s.heap.objs.size f (.ref cw))) →
      ∃ t, PSs (cxOf CX0 P w K mg base N x (defScope st) f (.ref cw) A outer s H E) (defBody st) t ∧ ∀ as Ω P, sp as Ω P → SW K t (as.map some ++ List.replicate (N.length - as.length) none) Ω { nx := fun _ Ω' => P (.dat .none) Ω', rt := P }) :
    FnOk P w K mg base CX0 (k + 1) f fd ps (spA K sp) := by
  obtain ⟨oc, od, dV, kV, doc, pm, an, ct, osl, rfl, lk, hcd⟩ := D.ex
  refine fn_of lk hcd S (spA_len len) fun A outer s H vs Q E hr h => ?_
  obtain ⟨t, ht, hs⟩ := hbody A outer s H E hr
  obtain ⟨F0, Ω, as, P, k0, va, h, hq⟩ := h
  refine ⟨t, ht, hs as Ω P h F0 (L2.start N vs) H _ ⟨k0.fr, k0.st, ?_, k0.tb, k0.ob⟩ ⟨fun Γ' σ' Ω' H' hp k' => hq _ _ _ _ hp k'.bare (.dat .non), fun a v Ω' H' hp k' hv => hq _ _ _ _ hp k' hv, fun _ _ _ _ z => z.elim, fun _ _ _ _ z => z.elim⟩⟩
  unfold L2.start
  rw [va.length]
  exact Slots.start (N := N) va _
end
section
variable {K : PySem.W.Frag} [Tb K] {Γ : List (Option Av)} {Ω : AH} {P : Av → AH → Prop} {ta tc : TE} {t : TA} {i j : Nat} {f c' : Addr} {F : NF} {body : Expr} {sp : LSp} {E : XK} {cap : List (V × PyData)}
theorem e_held (e : Γ[i]? = some (some (.fn f [(f, LamO f F body), (F.c, CodeO F.c F.qual)] cap))) (h : AW K t Γ Ω fun as Ω1 => sp (cap.map (·.2)) as Ω1 P) : EW K (tHeld i f F body (cap.map fun c => some c.1) (spL K sp) E t) Γ Ω P := fun F0 σ H Q k q => by
  obtain ⟨v, ev, hv⟩ := k.val e
  cases hv with
  | fn ho hg =>
    have m1 : (f, LamO f F body) ∈ [(f, LamO f F body), (F.c, CodeO F.c F.qual)] := List.mem_cons_self ..
    have m2 : (F.c, CodeO F.c F.qual) ∈ [(f, LamO f F body), (F.c, CodeO F.c F.qual)] := List.mem_cons_of_mem _ (List.mem_cons_self ..)
    refine ⟨ev, Fz_le _ _ (ho _ m1), h (Fz Ω H) σ H _ k.re fun as vs Ω1 H1 h1 k1 v1 => ?_⟩
    exact ⟨Fz_le _ _ (k1.fr _ _ (ho _ m1)), Fz_le _ _ (k1.fr _ _ (ho _ m2)), Fz Ω1 H1, Ω1, as, P, cap, k1.bare.re, v1, rfl, fun c m => (hg c m).same k1.fr, h1, fun a v Ω' H' hp k' hv => q a v Ω' H' hp ((k1.anchor k.fr).back k') hv⟩
/-- g(a, lambda, c): the lambda holds one name of the running frame -/
theorem e_callL {q : Str} {mk : Addr → NF} {sp : CSp} {d : PyData} (hc : ∀ c', (mk c').c = c') (hq : ∀ c', (mk c').qual = q) (e : Γ[j]? = some (some (.dat d)))
    (h : EW K ta Γ Ω fun a Ω1 => EW K tc Γ Ω1 fun c Ω2 => ∀ f c' sv, sp f c' [(sv, d)] [a, .fn f [(f, LamO f (mk c') body), ((mk c').c, CodeO (mk c').c (mk c').qual)] [(sv, d)], c] Ω2 P) :
    EW K (tCallC [j] (spCl K sp) E (tCons ta (tCons (tLamE (Tb.T (K := K)) q mk body) (tCons tc tNil)))) Γ Ω P := fun F σ H Q k r =>
  h F σ H _ k fun a v Ω1 H1 h1 k1 v1 => ⟨k1.tb, fun f c' Hl x1 nn hT1 nf ef ec => by
    have kl := k1.ext x1 hT1
    refine h1 (Fz Ω1 Hl) σ Hl _ kl.re fun c u Ω2 H2 h2 k2 v2 => ?_
    obtain ⟨sv, esv, hsv⟩ := k2.val e
    have nf1 : Ω1.Off f := k1.off nf
    have nc1 : Ω1.Off c' := by
      constructor
      · cases z : Ω1 c' with
        | none => rfl
        | some as =>
          obtain ⟨xs, e1, _⟩ := kl.st c' as z
          rw [ec] at e1
          cases e1
      · cases z : Ω1.o c' with
        | none => rfl
        | some u =>
          obtain ⟨y, e1, e2⟩ := kl.ob c' u z
          rw [ec] at e1
          cases e1
          exact absurd rfl (e2.ncode _ _)
    have g1 : Fz Ω2 H2 f = some (LamO f (mk c') body) := k2.fr _ _ (Fz_to nf1 ef fun q z => by cases z)
    have g2 : Fz Ω2 H2 c' = some (CodeO c' q) := k2.fr _ _ (Fz_to nc1 ec fun q z => by cases z)
    refine ⟨f, c', Fz Ω2 H2, Ω2, _, P, [(sv, d)], k2.bare.re, .cons ((v1.same (Fz_ext x1)).same k2.fr) (.cons (.fn (fun p m => ?_) fun c m => ?_) (.cons v2 .nil)), ?_, h2 f c' sv, fun a v Ω' H' hp k' hv => r a v Ω' H' hp ((k2.anchor kl.fr).back k') hv⟩
    · rw [List.mem_cons, List.mem_singleton] at m
      rcases m with rfl | rfl
      · exact g1
      · show Fz Ω2 H2 (mk c').c = some (CodeO (mk c').c (mk c').qual)
        rw [hc, hq]
        exact g2
    · rw [List.mem_singleton] at m
      subst m
      cases hsv with | dat hd => exact hd
    · show [NdefX.slotAt σ j] = [some sv]
      unfold NdefX.slotAt
      rw [esv]⟩
/-- a list that is to change no more -/
theorem Slots.same' {F : Hp} {Γ : List (Option Av)} {σ : List (Option V)} {p : Addr} {d : PyData} : ∀ {Γ : List (Option Av)} {σ : List (Option V)} (i : Nat), Slots K F Γ σ → Γ[i]? = some (some (.ptr p)) → Dq K F (.ref p) d → Slots K F (Γ.set i (some (.dat d))) σ
  | _, _, _, .nil, e, _ => by simp at e
  | _, _, 0, .no _, e, _ => by simp at e
  | _, _, 0, .yes h g, e, hd => by
    rw [List.getElem?_cons_zero] at e
    cases e
    cases h
    exact .yes (.dat hd) g
  | _, _, i + 1, .no g, e, hd => by
    rw [List.getElem?_cons_succ] at e
    exact .no (Slots.same' (Γ := Γ) (σ := σ) i g e hd)
  | _, _, i + 1, .yes h g, e, hd => by
    rw [List.getElem?_cons_succ] at e
    exact .yes h (Slots.same' (Γ := Γ) (σ := σ) i g e hd)
theorem s_frz {t : TS} {E : EndA} {p : Addr} {ds : List PyData} (i : Nat) (es : Γ[i]? = some (some (.ptr p))) (e : Ω p = some (ds.map .dat)) (h : SW K t (Γ.set i (some (.dat (.list ds)))) (del Ω p) E) : SW K t Γ Ω E := fun F σ H D k e' => by
  obtain ⟨k2, d2⟩ := k.frz e
  exact h F σ H D ⟨k2.fr, k2.st, Slots.same' (Γ := Γ) (σ := σ) i k2.sl es d2, k2.tb, k2.ob⟩ e'
end
end Dat

set_option Elab.async false
set_option linter.all false
set_option maxRecDepth 100000
set_option maxHeartbeats 1000000
namespace Dat
open PySem PySem.Spec PyProof.Rows L2
/-! truths of values; list.pop(0), list.index, enumerate of a list -/
def tTru (K : PySem.W.Frag) (ta : TE) : TT := fun σ H Q => ta σ H fun x H' => ∃ k, TruV K x H' k ∧ Q k H'
section
variable {X : Cx} {K : PySem.W.Frag}
theorem truQ {a : Expr} {ta : TE} (hK : X.K = K) (ha : PE X a ta) (he : ∀ whole, isTrue a X.env whole = (do let v ← whole; standAt a.pos; holding [v] (truthy v)) := by intro _; rfl) : PT X a (tTru K ta) := by
  subst hK
  exact pt_truth ha he
theorem popAtQ {o e : Expr} {to : TE} {t : TA} {apos cpos : Pos} (hK : X.K = K) (ho : PE X o to) (ha : PA X [e] t)
    (hbase : attributeBase o "pop" X.env (eval o X.env) = eval o X.env := by rfl)
    (hfew : ((backTo cpos (starEach [e] X.env)).all (fun x => !x.1) && (backToKw cpos (keywordEach [] X.env)).all (fun x => x.1.isSome)
      && decide ([e].length + ([] : List Keyword).length + (if ([] : List Keyword).isEmpty then 0 else 1) < 30)) = true := by rfl)
    (hline : (apos.endLine == cpos.line) = true := by rfl) (hs : starEach [e] X.env = (false, eval e X.env) :: starEach [] X.env := by rfl) (hplain : (backTo cpos (starEach [] X.env)).any (·.1) = false := by rfl) :
    PE X (.Call (.Attribute o "pop" apos) [e] [] cpos) (tBM K "list" rPopAt to t) := by
  subst hK
  exact pe_bm PySem.F.plainAttrs_list PySem.F.slot_list_pop PySem.F.type_list_pop mt_popAt ho ha hbase hfew hline hs hplain
theorem indexQ {o e : Expr} {to : TE} {t : TA} {apos cpos : Pos} (hK : X.K = K) (ho : PE X o to) (ha : PA X [e] t)
    (hbase : attributeBase o "index" X.env (eval o X.env) = eval o X.env := by rfl)
    (hfew : ((backTo cpos (starEach [e] X.env)).all (fun x => !x.1) && (backToKw cpos (keywordEach [] X.env)).all (fun x => x.1.isSome)
      && decide ([e].length + ([] : List Keyword).length + (if ([] : List Keyword).isEmpty then 0 else 1) < 30)) = true := by rfl)
    (hline : (apos.endLine == cpos.line) = true := by rfl) (hs : starEach [e] X.env = (false, eval e X.env) :: starEach [] X.env := by rfl) (hplain : (backTo cpos (starEach [] X.env)).any (·.1) = false := by rfl) :
    PE X (.Call (.Attribute o "index" apos) [e] [] cpos) (tBM K "list" (rIndex K) to t) := by
  subst hK
  exact pe_bm PySem.F.plainAttrs_list PySem.F.slot_list_index PySem.F.type_list_index mt_index ho ha hbase hfew hline hs hplain
end
section
variable {K : PySem.W.Frag} [Tb K] {Γ : List (Option Av)} {Ω : AH} {ta : TE} {tl : TA} {ds es fs : List PyData}
theorem DqAll.emp {H : Hp} {vs : List V} (g : DqAll K H vs ds) : (!ds.isEmpty) = !vs.isEmpty := by
  cases g <;> rfl
theorem t_truT {P : Bool → AH → Prop} (h : EW K ta Γ Ω fun a Ω1 => ∃ ds, a = .dat (.tuple ds) ∧ P (!ds.isEmpty) Ω1) : TW K (tTru K ta) Γ Ω P := fun F σ H Q k q =>
  h F σ H _ k fun a v Ω' H' ⟨ds, e, hp⟩ k' hv => by
    subst e
    cases hv with
    | dat hv =>
      cases hv with
      | tup hs g =>
        refine ⟨_, .inr (.inl ⟨_, sqT_same Fz_le hs, rfl⟩), ?_⟩
        rw [← g.emp]
        exact q _ Ω' H' hp k'
theorem e_pop0 {P : Av → AH → Prop} (h : EW K ta Γ Ω fun a Ω1 => ∃ p, a = .ptr p ∧ (∃ bs, Ω1 p = some bs) ∧ AW K tl Γ Ω1 fun cs Ω2 => ∃ b as, cs = [.dat (.int 0)] ∧ Ω2 p = some (b :: as) ∧ P b (put Ω2 p as)) : EW K (tBM K "list" rPopAt ta tl) Γ Ω P := fun F σ H Q k q =>
  h F σ H _ k fun a v Ω1 H1 ⟨p, ea, ⟨bs, eb⟩, h1⟩ k1 v1 => by
    subst ea
    cases v1
    obtain ⟨zs, hz, _⟩ := k1.st p bs eb
    refine ⟨.inl ⟨rfl, _, SqL.of hz⟩, h1 F σ H1 _ k1 fun cs vs Ω2 H2 ⟨b, as, ec, e2, hp⟩ k2 v2 => ?_⟩
    subst ec
    cases v2 with | cons vb v2 =>
      cases v2
      cases vb with | dat vb =>
      cases vb
      obtain ⟨xs, hx, g⟩ := k2.st p _ e2
      cases g with | cons hb g =>
      rename_i y ys
      refine ⟨p, _, 0, 0, y, rfl, rfl, hx, by decide, by decide, ?_, rfl, ?_⟩
      · simp [seqIndex?]
      · have k3 := k2.put e2 g
        have e3 : Fz (put Ω2 p as) (upd H2 p (.lst ys)) = Fz Ω2 H2 := Fz_put e2
        exact q _ _ _ _ hp k3 (by show VOk K (Fz _ (upd H2 p (.lst ys))) b y; rw [e3]; exact hb)
theorem e_idx {P : Av → AH → Prop} (h : EW K ta Γ Ω fun a Ω1 => ∃ ds, a = .dat (.list ds) ∧ ds.all canFlat = true ∧ AW K tl Γ Ω1 fun cs Ω2 => ∃ d e j, cs = [.dat d] ∧ canFlat d = true ∧ ds[j]? = some e ∧ PyData.eqv e d = true ∧ (∀ m e', m < j → ds[m]? = some e' → PyData.eqv e' d = false) ∧ P (.dat (.int (j : Nat))) Ω2) : EW K (tBM K "list" (rIndex K) ta tl) Γ Ω P := fun F σ H Q k q =>
  h F σ H _ k fun a v Ω1 H1 ⟨ds, ea, ef, h1⟩ k1 v1 => by
    subst ea
    cases v1 with | dat v1 =>
    cases v1 with | lst hs g =>
    refine ⟨.inl ⟨rfl, _, SqL.of (Fz_le _ _ hs)⟩, h1 (Fz Ω1 H1) σ H1 _ k1.re fun cs vs Ω2 H2 ⟨d, e, j, ec, fd, ej, ev, no, hp⟩ k2 v2 => ?_⟩
    subst ec
    cases v2 with | cons vb v2 =>
      cases v2
      cases vb with | dat vb =>
      have g2 := g.same k2.fr
      obtain ⟨z, ez, hz⟩ := g2.get ej
      have fe : canFlat e = true := List.all_eq_true.mp ef e (List.mem_of_getElem? ej)
      refine ⟨_, _, _, j, z, rfl, rfl, SqL.of (Fz_le _ _ (k2.fr _ _ hs)), dq_flat vb fd, dqAll_flat g2 ef, ez, by rw [dq_eqv hz vb fe fd]; exact ev, fun m z' hm ez' => ?_, q _ _ _ _ hp (k2.anchor k1.fr) (.dat (.int _))⟩
      obtain ⟨e', ee, he⟩ := g2.getV ez'
      rw [dq_eqv he vb (List.all_eq_true.mp ef e' (List.mem_of_getElem? ee)) fd]
      exact no m e' hm ee
theorem walk_enumL {F : Hp} {a : Addr} {xs : List V} (h : F a = some (.lst xs)) (g : DqAll K F xs ds) : WalkA K F (L2.Ite K a) (enumA ds) := by
  constructor
  · intro Ω H k i b e
    obtain ⟨hi, rfl⟩ := rng_at e
    obtain ⟨v, ev, hv⟩ := getD_dq g hi
    refine ⟨⟨xs, v, SqL.of (k.fr.trans Fz_le _ _ h), ev⟩, fun x H' hy => ?_⟩
    obtain ⟨T, x2, rfl, nT, rfl, f⟩ := hy
    have := f xs (SqL.of (k.fr.trans Fz_le _ _ h))
    rw [ev] at this
    cases this
    exact ⟨same_new nT, .dat (tup_new k nT (.cons (.int _) (.cons (hv.same k.fr) .nil)))⟩
  · intro Ω H k
    exact ⟨xs, SqL.of (k.fr.trans Fz_le _ _ h), by rw [g.length]; simp [enumA]⟩
theorem i_enumL {P : List Av → AH → Prop} (h : AW K tl Γ Ω fun as Ω1 => ∃ ds, as = [.dat (.list ds)] ∧ P (enumA ds) Ω1) : IW K (iEnum K tl) Γ Ω P := fun F σ H R k q =>
  h F σ H _ k fun as vs Ω1 H1 ⟨ds, e, hp⟩ k1 v1 => by
    subst e
    cases v1 with | cons v1 v2 =>
      cases v2
      cases v1 with | dat v1 =>
        cases v1 with | lst hs g =>
          exact ⟨_, _, rfl, SqL.of (Fz_le _ _ hs), q _ _ _ _ hp k1 (walk_enumL hs g)⟩
theorem enumA_at {ds : List PyData} {i : Nat} {a : Av} (h : (enumA ds)[i]? = some a) : ∃ d, ds[i]? = some d ∧ a = .dat (.tuple [.int (i : Nat), d]) := by
  obtain ⟨hi, rfl⟩ := rng_at h
  exact ⟨ds[i], List.getElem?_eq_getElem hi, by rw [List.getD_eq_getElem?_getD, List.getElem?_eq_getElem hi]; rfl⟩
theorem enumA_len {ds : List PyData} : (enumA ds).length = ds.length := by
  unfold enumA
  rw [List.length_map, List.length_range]
end
end Dat

set_option Elab.async false
set_option linter.all false
set_option maxRecDepth 100000
set_option maxHeartbeats 1000000
namespace Dat
open PySem PySem.Spec PyProof.Rows L2
theorem pgLQ {X : Cx} {K : PySem.W.Frag} {es : List Expr} {k : Nat} {t : TGs} {n : Nat} {pos : Pos} (hK : X.K = K) (hc : X.calm = true) (h : PGs X es t)
    (hn : (assignEach es X.env).length = n := by rfl) (hst : (assignEach es X.env).findIdx? (·.1) = none := by rfl) : PG X (.Tuple es k pos) (gLst K n t) := by subst hK; exact pg_lst hc h hn hst
abbrev IsI (i : Int) (Ω : AH) : Av → AH → Prop := fun a Ω' => a = .dat (.int i) ∧ Ω' = Ω
section
variable {K : PySem.W.Frag} [Tb K] {Γ : List (Option Av)} {Ω : AH} {gs : TGs} {ds : List PyData} {ta tb tc : TE}
theorem g_lst {n : Nat} {P : List (Option Av) → AH → Prop} (l : ds.length = n) (h : GsW K gs (ds.map .dat) Γ Ω P) : GW K (gLst K n gs) (.dat (.list ds)) Γ Ω P := fun F σ H v Q k hv q => by
  cases hv with | dat hv => cases hv with | lst hs g => exact ⟨_, _, rfl, SqL.of (Fz_le _ _ hs), g.length.trans l, h F σ H _ Q k (.ofDats g) q⟩
theorem e_chainB {lo x hi : Int} (h1 : EW K ta Γ Ω (IsI lo Ω)) (h2 : EW K tb Γ Ω (IsI x Ω)) (h3 : EW K tc Γ Ω (IsI hi Ω)) :
    EW K (tChain (rI0 fun i j => .bl (decide (i ≤ j))) (rI0 fun i j => .bl (decide (i ≤ j))) ta tb tc) Γ Ω (IsB (decide (lo ≤ x) && decide (x ≤ hi)) Ω) :=
  e_chain (h1.mono fun a Ω1 ⟨e1, o1⟩ => by
    subst e1 o1
    exact h2.mono fun b Ω2 ⟨e2, o2⟩ => by
      subst e2 o2
      refine r_I0b ⟨_, rfl, fun z => ?_, fun z => ?_⟩
      · exact h3.mono fun d Ω3 ⟨e3, o3⟩ => by
          subst e3 o3
          exact r_I0b ⟨by rw [z, Bool.true_and], rfl⟩
      · exact ⟨by rw [z, Bool.false_and], rfl⟩)
end
section
variable {K : PySem.W.Frag} [Tb K] {Γ : List (Option Av)} {Ω : AH} {tl : TA} {E : EndA}
theorem s_par3 {i j m : Nat} (h : AW K tl Γ Ω fun as Ω1 => ∃ a b c, as = [a, b, c] ∧ E.nx (((Γ.set i (some a)).set j (some b)).set m (some c)) Ω1) : SW K (tPar3 i j m tl) Γ Ω E := fun F σ H D k e =>
  h F σ H _ k fun as vs Ω1 H1 ⟨a, b, c, ea, hp⟩ k1 v1 => by
    subst ea
    cases v1 with | cons va v1 => cases v1 with | cons vb v1 => cases v1 with | cons vc v1 =>
      cases v1
      exact ⟨_, _, _, rfl, e.nx _ _ _ _ hp (((k1.set va i).set vb j).set vc m)⟩
end
theorem eqv_nil : ∀ {ds : List PyData}, PyData.eqv (.list ds) (.list []) = ds.isEmpty
  | [] => by simp [PyData.eqv, PyData.eqvAll]
  | _ :: _ => by simp [PyData.eqv, PyData.eqvAll]
structure Lay (d : PyData) (k : Nat) : Prop where
  c : d.canLay0 = true
  k : d.depth ≤ k
theorem layAll : ∀ {ds : List PyData} {k : Nat}, (∀ d ∈ ds, Lay d k) → PyData.canLayAll0 ds = true ∧ PyData.depthAll ds ≤ k
  | [], _, _ => ⟨by simp [PyData.canLayAll0], by simp [PyData.depthAll]⟩
  | d :: r, k, h => by
    have h1 := h d List.mem_cons_self
    have h2 := layAll (ds := r) (k := k) fun y m => h y (List.mem_cons_of_mem _ m)
    refine ⟨by simp [PyData.canLayAll0, h1.c, h2.1], ?_⟩
    simp only [PyData.depthAll]
    exact Nat.max_le.mpr ⟨h1.k, h2.2⟩
theorem Lay.tup {ds : List PyData} {k : Nat} (h : ∀ d ∈ ds, Lay d k) : Lay (.tuple ds) (k + 1) := by
  obtain ⟨a, b⟩ := layAll h
  exact ⟨by simp only [PyData.canLay0, a], by simp only [PyData.depth]; omega⟩
theorem Lay.lst {ds : List PyData} {k : Nat} (h : ∀ d ∈ ds, Lay d k) : Lay (.list ds) (k + 1) := by
  obtain ⟨a, b⟩ := layAll h
  exact ⟨by simp only [PyData.canLay0, a], by simp only [PyData.depth]; omega⟩
theorem Lay.int (i : Int) : Lay (.int i) 0 := ⟨by simp [PyData.canLay0], by simp [PyData.depth]⟩
theorem Lay.mono {d : PyData} {k j : Nat} (h : Lay d k) (l : k ≤ j) : Lay d j := ⟨h.c, Nat.le_trans h.k l⟩
theorem Lay.shaped {d : PyData} {k : Nat} (h : Lay d k) (l : k ≤ 64) : SeqAt.shaped d = true := by
  rw [SeqAt.shaped, Bool.and_eq_true, decide_eq_true_eq]
  exact ⟨h.c, Nat.le_trans h.k l⟩
theorem lay_map {α : Type} {f : α → PyData} {xs : List α} {k : Nat} (h : ∀ x ∈ xs, Lay (f x) k) : ∀ d ∈ xs.map f, Lay d k := fun d hd => by
  obtain ⟨x, hx, rfl⟩ := List.mem_map.mp hd
  exact h x hx
theorem Lay.str {x : Str} (h : PyData.strOk x = true) : Lay (.str x) 0 := ⟨by simp [PyData.canLay0, h], by simp [PyData.depth]⟩
theorem Lay.none : Lay .none 0 := ⟨by simp [PyData.canLay0], by simp [PyData.depth]⟩
theorem lay_ints (ns : List Int) : ∀ d ∈ ns.map PyData.int, Lay d 0 := lay_map fun i _ => Lay.int i
theorem eqv_lay {d : PyData} {k : Nat} (h : Lay d k) : PyData.eqv d d = true := SeqAt.eqv_refl _ h.c
theorem sh_ints (ns : List Int) : SeqAt.shaped (.list (ns.map PyData.int)) = true := (Lay.lst (lay_ints ns)).shaped (by decide)
end Dat

set_option Elab.async false
set_option linter.all false
set_option maxRecDepth 100000
set_option maxHeartbeats 2000000
/-! zip of a tuple and a list -/
namespace Enz
open PySem PySem.Spec PyProof.Rows L2
def ItzTL (K : PySem.W.Frag) (a b : Addr) : It :=
  ⟨fun i H => ∃ (xs ys : List V) (x y : V), SqT K H a xs ∧ SqL K H b ys ∧ xs[i]? = some x ∧ ys[i]? = some y,
    fun i H v H' => ∃ T x y, v = .ref T ∧ H T = none ∧ H' = upd H T (.tup [x, y]) ∧ (∀ xs, SqT K H a xs → xs[i]? = some x) ∧ ∀ ys, SqL K H b ys → ys[i]? = some y,
    fun i H => ∃ xs ys : List V, SqT K H a xs ∧ SqL K H b ys ∧ xs.length = i ∧ ys.length = i⟩
theorem turn_zipTL {P : Program} {w : World} {K : PySem.W.Frag} {elts : List Expr} {kk : Nat} {tpos : Pos} {a b z TI TO i1 i2 : Addr} (D : ZipSep2 z TI TO i1 i2 [i1, a] [i2, b]) (na : a ≠ i1) (nb : b ≠ i2) :
    Turn P w K (.Tuple elts kk tpos) (ItzTL K a b) [z, TI, TO, i1, i2] z (fun i h => IsZip h z TI TO .none ∧ IsTupOf2 h TI (.ref i1) (.ref i2) ∧ (∃ x y, IsTupOf2 h TO x y) ∧ h.IsTupleIter i1 a i ∧ h.IsListIter i2 b i) where
  mem := by simp
  obj := fun i h st m hm => by
    obtain ⟨hz, hTI, ⟨x, y, hTO⟩, ⟨o1, e1, _, d1⟩, ⟨o2, e2, _, d2⟩⟩ := st
    rcases (by simpa using hm : m = z ∨ m = TI ∨ m = TO ∨ m = i1 ∨ m = i2) with q | q | q | q | q
    · rw [q]; exact ⟨_, hz, fun v q => nomatch q⟩
    · rw [q]; exact ⟨_, hTI, fun v q => nomatch q⟩
    · rw [q]; exact ⟨_, hTO, fun v q => nomatch q⟩
    · rw [q]; exact ⟨o1, e1, fun v q => by rw [d1] at q; cases q⟩
    · rw [q]; exact ⟨o2, e2, fun v q => by rw [d2] at q; cases q⟩
  keep := fun i h h' st k => by
    obtain ⟨hz, hTI, ⟨x, y, hTO⟩, h1, h2⟩ := st
    exact ⟨k z (by simp) _ hz, k TI (by simp) _ hTI, ⟨x, y, k TO (by simp) _ hTO⟩, h1.at fun o q => k i1 (by simp) o q, h2.at fun o q => k i2 (by simp) o q⟩
  item := by
    intro X hP hw hK hc i pins s σ H E I hf st hg
    subst hP hw hK
    obtain ⟨hz, hTI, ⟨x0, y0, hTO⟩, h1, h2⟩ := st
    obtain ⟨xs, ys, x, y, hqx, hqy, hx, hy⟩ := hg
    obtain ⟨its, rv, p1, _⟩ := I.tuple hqx; obtain ⟨jts, rw2, p2, _⟩ := I.list hqy
    obtain ⟨u1, hu1, ru1⟩ := rv.get hx; obtain ⟨u2, hu2, ru2⟩ := rw2.get hy
    have l1 : i < its.length := (List.getElem?_eq_some_iff.mp hu1).1; have l2 : i < jts.length := (List.getElem?_eq_some_iff.mp hu2).1
    have nh : X.A.in1.handled = none := by simp [I.ok.hd hc]
    have dw1 := Draws.tuple (prog := X.prog) (w := X.w) (A := X.A.in1) nh i1 a na its.toArray
    have dw2 := Draws.list (prog := X.prog) (w := X.w) (A := X.A.in1) nh i2 b nb jts.toArray
    have zl : z < s.heap.objs.size := Heap.lt_size hz
    refine wpAny_pyNext_zipD2_item D dw1 dw2 hz hTI hTO ⟨h1, p1⟩ ⟨h2, p2.isList⟩ (by simpa using l1) (by simpa using l2) fun v1 v2 g tk q1 q2 z' TO' s1 s2 hT sz k => ?_
    have e1 := pick hu1 q1; have e2 := pick hu2 q2
    subst e1; subst e2
    refine ⟨_, rfl, wpAny_letOwnedTupleGo_zip (s := { s with heap := g, toks := tk }) z' fun g2 z'' sb => ?_⟩
    have hT2 : g2.get? s.heap.objs.size = some { cls := .type "tuple", data := .seq #[v1, v2] } := (sb.2 _ (Nat.ne_of_gt zl)).trans hT
    have new : ObjOk X.prog X.w (upd H s.heap.objs.size (.tup [x, y])) g2 s.heap.objs.size (.tup [x, y]) :=
      ⟨by show 2 ≤ sizeLine; decide, [v1, v2], .cons ru1 (.cons ru2 .nil), ⟨_, hT2, rfl, _, rfl⟩⟩
    have I2 : Inv X pins σ (upd H s.heap.objs.size (.tup [x, y])) { s with heap := g2, toks := tk } :=
      I.turnedNew (t' := tk) (ch := [z, TI, TO, i1, i2]) (fun m o hb q => (sb.2 m (fun q' => hb (by simp [q']))).trans (k m o (fun q' => hb (by simp [q'])) (fun q' => hb (by simp [q'])) (fun q' => hb (by simp [q'])) (fun q' => hb (by simp [q'])) q)) hf (Nat.le_refl _) new
    refine ⟨.ref s.heap.objs.size, _, I2, rfl, ⟨_, x, y, rfl, I.hok.fresh (Nat.le_refl _), rfl, fun l hl => by rw [I.tuple_inj hl hqx]; exact hx, fun l hl => by rw [I.list_inj hl hqy]; exact hy⟩, ⟨z'', ?_, ⟨v1, v2, ?_⟩, ?_, ?_⟩, fun m hm => ?_⟩
    · exact (sb.2 _ D.TIz).trans (k _ _ D.TIz D.TITO D.TIi1 D.TIi2 hTI)
    · exact (sb.2 _ D.TOz).trans TO'
    · exact s1.1.at fun o q => (sb.2 _ D.zi1.symm).trans q
    · exact s2.1.at fun o q => (sb.2 _ D.zi2.symm).trans q
    · have lm : m < s.heap.objs.size := by
        rcases (by simpa using hm : m = z ∨ m = TI ∨ m = TO ∨ m = i1 ∨ m = i2) with q | q | q | q | q
        · rw [q]; exact zl
        · rw [q]; exact Heap.lt_size hTI
        · rw [q]; exact Heap.lt_size hTO
        · rw [q]; obtain ⟨_, w1, _⟩ := h1; exact Heap.lt_size w1
        · rw [q]; obtain ⟨_, w1, _⟩ := h2; exact Heap.lt_size w1
      rw [upd_ne (Nat.ne_of_lt lm)]; exact (hf m hm).1
  done := by
    intro X hP hw hK hc i pins s σ H E I hf st hg
    subst hP hw hK
    obtain ⟨hz, hTI, ⟨x0, y0, hTO⟩, h1, h2⟩ := st
    obtain ⟨xs, ys, hqx, hqy, ln1, ln2⟩ := hg
    obtain ⟨its, rv, p1, _⟩ := I.tuple hqx; obtain ⟨jts, rw2, p2, _⟩ := I.list hqy
    have m1 := rv.length; have m2 := rw2.length
    have nh : X.A.in1.handled = none := by simp [I.ok.hd hc]
    have dw1 := Draws.tuple (prog := X.prog) (w := X.w) (A := X.A.in1) nh i1 a na its.toArray
    have dw2 := Draws.list (prog := X.prog) (w := X.w) (A := X.A.in1) nh i2 b nb jts.toArray
    exact wpAny_pyNext_zipD2_end D dw1 dw2 hz hTI hTO ⟨h1, p1⟩ ⟨h2, p2.isList⟩ (by simp; omega) (by simp; omega) (.inl (by simp; omega)) fun g tk k => ⟨rfl, I.turnedL (t' := tk) (ch := [z, TI, TO, i1, i2]) (fun m o hb q =>
      k m o (fun q' => hb (by simp [q'])) (fun q' => hb (by simp [q'])) (fun q' => hb (by simp [q'])) (fun q' => hb (by simp [q'])) q) hf⟩
  self := fun A i s Q E st h => wpAny_pyIter_zip st.1 h
def iZipTL (K : PySem.W.Frag) (ta : TA) : TI := fun σ H R => ta σ H fun vs H1 => ∃ a b xs ys, vs = [.ref a, .ref b] ∧ SqT K H1 a xs ∧ SqL K H1 b ys ∧ R (ItzTL K a b) H1
theorem pi_zipTL {X : Cx} {e e2 : Expr} {ta : TA} {p pos tpos : Pos} {elts : List Expr} {kk : Nat} (hg : Gl X "zip") (hm : X.mg "zip" = none) (ha : PA X [e, e2] ta)
    (hs : starEach [e, e2] X.env = (false, eval e X.env) :: starEach [e2] X.env := by rfl) (hpl : (backTo pos (starEach [e2] X.env)).any (·.1) = false := by rfl) :
    PI X (.Tuple elts kk tpos) (.Call (.Name "zip" p) [e, e2] [] pos) (iZipTL X.K ta) := by
  refine ⟨fun pins s σ H R I h => Call_ (ld_blt I hg hm PyProof.Rows.boot_zip (PyProof.Rows.callWith_type1 (thn (ha.run pos pins s σ H _ I h) fun us s1 ⟨vs, H1, I1, r1, q1⟩ => ?_) hs hpl))⟩
  obtain ⟨a, b, xs, ys, ex, hqa, hqb, q⟩ := q1
  subst ex
  cases r1 with | cons ra r1 => cases r1 with | cons rb r1 =>
    cases r1; cases ra; cases rb
    obtain ⟨its, _, p1, _⟩ := I1.tuple hqa; obtain ⟨jts, _, p2, _⟩ := I1.list hqb
    have la : a < s1.heap.objs.size := by obtain ⟨_, y, _⟩ := p1; exact Heap.lt_size y
    have lb : b < s1.heap.objs.size := by obtain ⟨_, y, _⟩ := p2.isList; exact Heap.lt_size y
    refine zip_begins2 (begins_tuple a its.toArray) (begins_list b jts.toArray) p1 p2.isList fun g hz hTI hTO g1 g2 _ k => wpAny_pyIter_zip hz ?_
    have I2 : Inv X pins σ H1 { s1 with heap := g } := I1.kept (t' := s1.toks) k
    have sep : ZipSep2 (s1.heap.objs.size + 4) (s1.heap.objs.size + 2) (s1.heap.objs.size + 3) s1.heap.objs.size (s1.heap.objs.size + 1) [s1.heap.objs.size, a] [s1.heap.objs.size + 1, b] :=
      zip_sep2 (fp1 := [a]) (fp2 := [b]) (by simpa using la) (by simpa using lb)
    refine ⟨s1.heap.objs.size + 4, [s1.heap.objs.size + 4, s1.heap.objs.size + 2, s1.heap.objs.size + 3, s1.heap.objs.size, s1.heap.objs.size + 1], _, _, H1, rfl, I2, turn_zipTL sep (Nat.ne_of_lt la) (Nat.ne_of_lt (Nat.lt_succ_of_lt lb)), ⟨hz, hTI, ⟨_, _, hTO⟩, ⟨_, g1, rfl, rfl⟩, ⟨_, g2, rfl, rfl⟩⟩, fun m hm => ?_, q⟩
    have lm : s1.heap.objs.size ≤ m := by
      rcases (by simpa using hm : m = s1.heap.objs.size + 4 ∨ m = s1.heap.objs.size + 2 ∨ m = s1.heap.objs.size + 3 ∨ m = s1.heap.objs.size ∨ m = s1.heap.objs.size + 1) with z | z | z | z | z
      all_goals (rw [z]; first | exact Nat.le_add_right _ _ | exact Nat.le_refl _)
    exact I1.fpOk lm (I1.hok.fresh lm)
end Enz
namespace Dat
open PySem PySem.Spec PyProof.Rows L2
theorem zipTLQ {X : Cx} {K : PySem.W.Frag} {e e2 : Expr} {ta : TA} {p pos tpos : Pos} {elts : List Expr} {kk : Nat} (hK : X.K = K) (hg : Gl X "zip") (hm : X.mg "zip" = none) (ha : PA X [e, e2] ta)
    (hs : starEach [e, e2] X.env = (false, eval e X.env) :: starEach [e2] X.env := by rfl) (hpl : (backTo pos (starEach [e2] X.env)).any (·.1) = false := by rfl) :
    PI X (.Tuple elts kk tpos) (.Call (.Name "zip" p) [e, e2] [] pos) (Enz.iZipTL K ta) := by
  subst hK
  exact Enz.pi_zipTL hg hm ha hs hpl
section
variable {K : PySem.W.Frag} [Tb K] {Γ : List (Option Av)} {Ω : AH} {tl : TA} {ds es : List PyData}
theorem walk_zipTL {F : Hp} {a b : Addr} {xs ys : List V} (h : SqT K F a xs) (g : DqAll K F xs ds) (h2 : F b = some (.lst ys)) (g2 : DqAll K F ys es) (hl : ds.length = es.length) : WalkA K F (Enz.ItzTL K a b) (zipA ds es) := by
  constructor
  · intro Ω H k i c e
    obtain ⟨hi, rfl⟩ := rng_at e
    obtain ⟨v, ev, hv⟩ := getD_dq g hi
    obtain ⟨u, eu, hu⟩ := getD_dq g2 (i := i) (by omega)
    refine ⟨⟨xs, ys, v, u, sqT_same (k.fr.trans Fz_le) h, SqL.of (k.fr.trans Fz_le _ _ h2), ev, eu⟩, fun x H' hy => ?_⟩
    obtain ⟨T, x2, y2, rfl, nT, rfl, f, f2⟩ := hy
    have t1 := f xs (sqT_same (k.fr.trans Fz_le) h)
    have t2 := f2 ys (SqL.of (k.fr.trans Fz_le _ _ h2))
    rw [ev] at t1
    rw [eu] at t2
    cases t1
    cases t2
    exact ⟨same_new nT, .dat (tup_new k nT (.cons (hv.same k.fr) (.cons (hu.same k.fr) .nil)))⟩
  · intro Ω H k
    have := g.length
    have := g2.length
    refine ⟨xs, ys, sqT_same (k.fr.trans Fz_le) h, SqL.of (k.fr.trans Fz_le _ _ h2), ?_, ?_⟩ <;> (simp [zipA]; omega)
theorem i_zipTL {P : List Av → AH → Prop} (h : AW K tl Γ Ω fun as Ω1 => ∃ ds es, as = [.dat (.tuple ds), .dat (.list es)] ∧ ds.length = es.length ∧ P (zipA ds es) Ω1) : IW K (Enz.iZipTL K tl) Γ Ω P := fun F σ H R k q =>
  h F σ H _ k fun as vs Ω1 H1 ⟨ds, es, e, hl, hp⟩ k1 v1 => by
    subst e
    cases v1 with | cons va v1 => cases v1 with | cons vb v1 => cases v1; cases va with | dat va => cases vb with | dat vb => cases va with | tup hs g => cases vb with | lst hs2 g2 =>
      exact ⟨_, _, _, _, rfl, sqT_same Fz_le hs, SqL.of (Fz_le _ _ hs2), q _ _ _ _ hp k1 (walk_zipTL hs g hs2 g2 hl)⟩
end
end Dat

set_option Elab.async false
set_option linter.all false
set_option maxRecDepth 100000
set_option maxHeartbeats 2000000
/-! a list that may change, shown; a chain of three comparisons -/
namespace Dat
open PySem PySem.Spec PyProof.Rows L2
theorem c_reprP {K : PySem.W.Frag} [Tb K] {Ω : AH} {P : Av → AH → Prop} {p : Addr} {ds : List PyData} (o : Ω p = some (ds.map .dat)) (s : Shown (.list ds)) (h : P (.dat (.str (PyData.list ds).shown)) Ω) : RCW K (rReprQ K) [.ptr p] Ω P := fun F H xs Q k hx q => by
  cases hx with | cons hx g =>
    cases g
    cases hx
    exact ⟨_, .list ds, rfl, k.listAt o, s, q _ _ _ _ h k (.dat (.str _))⟩
def tChain3 (r r' r2 : R2) (ta tb tc td : TE) : TE := fun σ H Q => ta σ H fun x H1 => tb σ H1 fun y H2 => r x y H2 fun z H3 => ∃ k, z = .bl k ∧
  (if k = true then tc σ H3 fun w' H4 => r' y w' H4 fun z' H5 => ∃ k', z' = .bl k' ∧ (if k' = true then td σ H5 fun u H6 => r2 w' u H6 Q else Q (.bl false) H5) else Q (.bl false) H3)
section
variable {X : Cx} {a b c d : Expr} {ta tb tc td : TE} {pos : Pos}
theorem pe_chain3 {op op' op2 : CmpOp} {r r' r2 : R2} (ho : OpR X (compareOp op) r) (ho' : OpR X (compareOp op') r') (ho2 : OpR X (compareOp op2) r2) (ha : PE X a ta) (hb : PE X b tb) (hc : PE X c tc) (hd : PE X d td)
    (hm : lastMarks [op, op', op2] [b, c, d] = false := by with_unfolding_all rfl) : PE X (.Compare a [op, op', op2] [b, c, d] pos) (tChain3 r r' r2 ta tb tc td) := by
  refine ⟨fun pins s σ H Q I h => ?_⟩
  refine Compare_chain (thn (ha.run pins s σ H _ I h) fun v s1 ⟨x, H1, I1, r1, q1⟩ => chain_link (thn (hb.run pins s1 σ H1 _ I1 q1) fun u s2 ⟨y, H2, I2, r2, q2⟩ =>
    thn (ho pins s2 σ H2 x y v u _ I2 r1 r2 q2) fun d s3 ⟨z, H3, I3, r3, k, e, q3⟩ => ?_)) hm
  subst e
  cases r3
  refine wpAny_truthy_bool ?_
  cases k with
  | false => exact ite_ff ⟨.bl false, H3, I3, rfl, q3⟩
  | true =>
    refine ite_tt (chain_link (thn (hc.run pins s3 σ H3 _ I3 q3) fun w' s4 ⟨z', H4, I4, r4, q4⟩ => thn (ho' pins s4 σ H4 y z' u w' _ I4 r2 r4 q4) fun d' s5 ⟨z5, H5, I5, r5, k', e', q5⟩ => ?_))
    subst e'
    cases r5
    refine wpAny_truthy_bool ?_
    cases k' with
    | false => exact ite_ff ⟨.bl false, H5, I5, rfl, q5⟩
    | true => exact ite_tt (chain_last (thn (hd.run pins s5 σ H5 _ I5 q5) fun w6 s6 ⟨z6, H6, I6, r6, q6⟩ => ho2 pins s6 σ H6 z' z6 w' w6 Q I6 r4 r6 q6))
end
section
variable {K : PySem.W.Frag} [Tb K] {Γ : List (Option Av)} {Ω : AH} {P : Av → AH → Prop} {ta tb tc td : TE} {r r' r2 : R2}
theorem e_chain3 (h : EW K ta Γ Ω fun a Ω1 => EW K tb Γ Ω1 fun b Ω2 => R2W K r a b Ω2 fun c Ω3 => ∃ z, c = .dat (.bool z) ∧ (z = true → EW K tc Γ Ω3 fun d Ω4 => R2W K r' b d Ω4 fun c5 Ω5 => ∃ z', c5 = .dat (.bool z') ∧
    (z' = true → EW K td Γ Ω5 fun e Ω6 => R2W K r2 d e Ω6 P) ∧ (z' = false → P (.dat (.bool false)) Ω5)) ∧ (z = false → P (.dat (.bool false)) Ω3)) : EW K (tChain3 r r' r2 ta tb tc td) Γ Ω P := fun F σ H Q k q =>
  h F σ H _ k fun a v Ω1 H1 h1 k1 v1 => h1 (Fz Ω1 H1) σ H1 _ k1.re fun b w Ω2 H2 h2 k2 v2 =>
    h2 (Fz Ω2 H2) H2 v w _ k2.bare.re (v1.same k2.fr) v2 fun c u Ω3 H3 ⟨z, ec, g1, g2⟩ k3 v3 => by
      subst ec
      have k3' := (k2.anchor k1.fr).back k3
      cases v3 with
      | dat v3 =>
        cases v3
        refine ⟨z, rfl, ?_⟩
        cases z with
        | true =>
          refine g1 rfl (Fz Ω3 H3) σ H3 _ k3'.re fun d x Ω4 H4 h4 k4 v4 =>
            h4 (Fz Ω4 H4) H4 w x _ k4.bare.re ((v2.same k3.fr).same k4.fr) v4 fun c5 u5 Ω5 H5 ⟨z', e5, g3, g4⟩ k5 v5 => ?_
          subst e5
          have k5' := (k4.anchor k3'.fr).back k5
          cases v5 with
          | dat v5 =>
            cases v5
            refine ⟨z', rfl, ?_⟩
            cases z' with
            | true =>
              exact g3 rfl (Fz Ω5 H5) σ H5 _ k5'.re fun e y Ω6 H6 h6 k6 v6 =>
                h6 (Fz Ω6 H6) H6 x y Q k6.bare.re ((v4.same k5.fr).same k6.fr) v6 fun f y' Ω7 H7 hp k7 v7 => q f y' Ω7 H7 hp ((k6.anchor k5'.fr).back k7) v7
            | false => exact q _ _ _ _ (g4 rfl) k5' (.dat (.bl false))
        | false => exact q _ _ _ _ (g2 rfl) k3' (.dat (.bl false))
end
end Dat

set_option Elab.async false
set_option linter.all false
set_option maxRecDepth 100000
set_option maxHeartbeats 2000000
/-! zip of a list and a tuple; of a list, a tuple and a list -/
namespace Enz
open PySem PySem.Spec PyProof.Rows L2
def Itz3L (K : PySem.W.Frag) (a b c : Addr) : It :=
  ⟨fun i H => ∃ (xs ys zs : List V) (x y z : V), SqL K H a xs ∧ SqT K H b ys ∧ SqL K H c zs ∧ xs[i]? = some x ∧ ys[i]? = some y ∧ zs[i]? = some z,
    fun i H v H' => ∃ T x y z, v = .ref T ∧ H T = none ∧ H' = upd H T (.tup [x, y, z]) ∧ (∀ xs, SqL K H a xs → xs[i]? = some x) ∧ (∀ ys, SqT K H b ys → ys[i]? = some y) ∧ ∀ zs, SqL K H c zs → zs[i]? = some z,
    fun i H => ∃ xs ys zs : List V, SqL K H a xs ∧ SqT K H b ys ∧ SqL K H c zs ∧ xs.length = i ∧ ys.length = i ∧ zs.length = i⟩
theorem turn_z3L {P : Program} {w : World} {K : PySem.W.Frag} {elts : List Expr} {kk : Nat} {tpos : Pos} {a b c z TI TO i1 i2 i3 : Addr} (D : ZipSep3 z TI TO i1 i2 i3 [i1, a] [i2, b] [i3, c]) (na : a ≠ i1) (nb : b ≠ i2) (nc : c ≠ i3) :
    Turn P w K (.Tuple elts kk tpos) (Itz3L K a b c) [z, TI, TO, i1, i2, i3] z (fun i h => IsZip h z TI TO .none ∧ IsTupOf3 h TI (.ref i1) (.ref i2) (.ref i3) ∧ (∃ x y u, IsTupOf3 h TO x y u) ∧ h.IsListIter i1 a i ∧ h.IsTupleIter i2 b i ∧ h.IsListIter i3 c i) where
  mem := by simp
  obj := fun i h st m hm => by
    obtain ⟨hz, hTI, ⟨x, y, u, hTO⟩, ⟨o1, e1, _, d1⟩, ⟨o2, e2, _, d2⟩, ⟨o3, e3, _, d3⟩⟩ := st
    rcases (by simpa using hm : m = z ∨ m = TI ∨ m = TO ∨ m = i1 ∨ m = i2 ∨ m = i3) with q | q | q | q | q | q
    · rw [q]; exact ⟨_, hz, fun v q => nomatch q⟩
    · rw [q]; exact ⟨_, hTI, fun v q => nomatch q⟩
    · rw [q]; exact ⟨_, hTO, fun v q => nomatch q⟩
    · rw [q]; exact ⟨o1, e1, fun v q => by rw [d1] at q; cases q⟩
    · rw [q]; exact ⟨o2, e2, fun v q => by rw [d2] at q; cases q⟩
    · rw [q]; exact ⟨o3, e3, fun v q => by rw [d3] at q; cases q⟩
  keep := fun i h h' st k => by
    obtain ⟨hz, hTI, ⟨x, y, u, hTO⟩, h1, h2, h3⟩ := st
    exact ⟨k z (by simp) _ hz, k TI (by simp) _ hTI, ⟨x, y, u, k TO (by simp) _ hTO⟩, h1.at fun o q => k i1 (by simp) o q, h2.at fun o q => k i2 (by simp) o q, h3.at fun o q => k i3 (by simp) o q⟩
  item := by
    intro X hP hw hK hc i pins s σ H E I hf st hg
    subst hP hw hK
    obtain ⟨hz, hTI, ⟨x0, y0, u0, hTO⟩, h1, h2, h3⟩ := st
    obtain ⟨xs, ys, zs, x, y, t, hqx, hqy, hqz, hx, hy, ht⟩ := hg
    obtain ⟨its, rv, p1, _⟩ := I.list hqx; obtain ⟨jts, rw2, p2, _⟩ := I.tuple hqy; obtain ⟨kts, rw3, p3, _⟩ := I.list hqz
    obtain ⟨u1, hu1, ru1⟩ := rv.get hx; obtain ⟨u2, hu2, ru2⟩ := rw2.get hy; obtain ⟨u3, hu3, ru3⟩ := rw3.get ht
    have l1 : i < its.length := (List.getElem?_eq_some_iff.mp hu1).1; have l2 : i < jts.length := (List.getElem?_eq_some_iff.mp hu2).1; have l3 : i < kts.length := (List.getElem?_eq_some_iff.mp hu3).1
    have nh : X.A.in1.handled = none := by simp [I.ok.hd hc]
    have dw1 := Draws.list (prog := X.prog) (w := X.w) (A := X.A.in1) nh i1 a na its.toArray
    have dw2 := Draws.tuple (prog := X.prog) (w := X.w) (A := X.A.in1) nh i2 b nb jts.toArray
    have dw3 := Draws.list (prog := X.prog) (w := X.w) (A := X.A.in1) nh i3 c nc kts.toArray
    have zl : z < s.heap.objs.size := Heap.lt_size hz
    refine wpAny_pyNext_zipD3_item D dw1 dw2 dw3 hz hTI hTO ⟨h1, p1.isList⟩ ⟨h2, p2⟩ ⟨h3, p3.isList⟩ (by simpa using l1) (by simpa using l2) (by simpa using l3) fun v1 v2 v3 g tk q1 q2 q3 z' TO' s1 s2 s3 hT sz k => ?_
    have e1 := pick hu1 q1; have e2 := pick hu2 q2; have e3 := pick hu3 q3
    subst e1; subst e2; subst e3
    refine ⟨_, rfl, wpAny_letOwnedTupleGo_zip (s := { s with heap := g, toks := tk }) z' fun g2 z'' sb => ?_⟩
    have hT2 : g2.get? s.heap.objs.size = some { cls := .type "tuple", data := .seq #[v1, v2, v3] } := (sb.2 _ (Nat.ne_of_gt zl)).trans hT
    have new : ObjOk X.prog X.w (upd H s.heap.objs.size (.tup [x, y, t])) g2 s.heap.objs.size (.tup [x, y, t]) :=
      ⟨by show 3 ≤ sizeLine; decide, [v1, v2, v3], .cons ru1 (.cons ru2 (.cons ru3 .nil)), ⟨_, hT2, rfl, _, rfl⟩⟩
    have I2 : Inv X pins σ (upd H s.heap.objs.size (.tup [x, y, t])) { s with heap := g2, toks := tk } :=
      I.turnedNew (t' := tk) (ch := [z, TI, TO, i1, i2, i3]) (fun m o hb q => (sb.2 m (fun q' => hb (by simp [q']))).trans (k m o (fun q' => hb (by simp [q'])) (fun q' => hb (by simp [q'])) (fun q' => hb (by simp [q'])) (fun q' => hb (by simp [q'])) (fun q' => hb (by simp [q'])) q)) hf (Nat.le_refl _) new
    refine ⟨.ref s.heap.objs.size, _, I2, rfl, ⟨_, x, y, t, rfl, I.hok.fresh (Nat.le_refl _), rfl, fun l hl => by rw [I.list_inj hl hqx]; exact hx, fun l hl => by rw [I.tuple_inj hl hqy]; exact hy, fun l hl => by rw [I.list_inj hl hqz]; exact ht⟩, ⟨z'', ?_, ⟨v1, v2, v3, ?_⟩, ?_, ?_, ?_⟩, fun m hm => ?_⟩
    · exact (sb.2 _ D.TIz).trans (k _ _ D.TIz D.TITO D.TIi1 D.TIi2 D.TIi3 hTI)
    · exact (sb.2 _ D.TOz).trans TO'
    · exact s1.1.at fun o q => (sb.2 _ D.zi1.symm).trans q
    · exact s2.1.at fun o q => (sb.2 _ D.zi2.symm).trans q
    · exact s3.1.at fun o q => (sb.2 _ D.zi3.symm).trans q
    · have lm : m < s.heap.objs.size := by
        rcases (by simpa using hm : m = z ∨ m = TI ∨ m = TO ∨ m = i1 ∨ m = i2 ∨ m = i3) with q | q | q | q | q | q
        · rw [q]; exact zl
        · rw [q]; exact Heap.lt_size hTI
        · rw [q]; exact Heap.lt_size hTO
        · rw [q]; obtain ⟨_, w1, _⟩ := h1; exact Heap.lt_size w1
        · rw [q]; obtain ⟨_, w1, _⟩ := h2; exact Heap.lt_size w1
        · rw [q]; obtain ⟨_, w1, _⟩ := h3; exact Heap.lt_size w1
      rw [upd_ne (Nat.ne_of_lt lm)]; exact (hf m hm).1
  done := by
    intro X hP hw hK hc i pins s σ H E I hf st hg
    subst hP hw hK
    obtain ⟨hz, hTI, ⟨x0, y0, u0, hTO⟩, h1, h2, h3⟩ := st
    obtain ⟨xs, ys, zs, hqx, hqy, hqz, ln1, ln2, ln3⟩ := hg
    obtain ⟨its, rv, p1, _⟩ := I.list hqx; obtain ⟨jts, rw2, p2, _⟩ := I.tuple hqy; obtain ⟨kts, rw3, p3, _⟩ := I.list hqz
    have m1 := rv.length; have m2 := rw2.length; have m3 := rw3.length
    have nh : X.A.in1.handled = none := by simp [I.ok.hd hc]
    have dw1 := Draws.list (prog := X.prog) (w := X.w) (A := X.A.in1) nh i1 a na its.toArray
    have dw2 := Draws.tuple (prog := X.prog) (w := X.w) (A := X.A.in1) nh i2 b nb jts.toArray
    have dw3 := Draws.list (prog := X.prog) (w := X.w) (A := X.A.in1) nh i3 c nc kts.toArray
    exact wpAny_pyNext_zipD3_end D dw1 dw2 dw3 hz hTI hTO ⟨h1, p1.isList⟩ ⟨h2, p2⟩ ⟨h3, p3.isList⟩ (by simp; omega) (by simp; omega) (by simp; omega) (.inl (by simp; omega)) fun g tk k => ⟨rfl, I.turnedL (t' := tk) (ch := [z, TI, TO, i1, i2, i3]) (fun m o hb q =>
      k m o (fun q' => hb (by simp [q'])) (fun q' => hb (by simp [q'])) (fun q' => hb (by simp [q'])) (fun q' => hb (by simp [q'])) (fun q' => hb (by simp [q'])) q) hf⟩
  self := fun A i s Q E st h => wpAny_pyIter_zip st.1 h
def iZ3L (K : PySem.W.Frag) (ta : TA) : TI := fun σ H R => ta σ H fun vs H1 => ∃ a b c xs ys zs, vs = [.ref a, .ref b, .ref c] ∧ SqL K H1 a xs ∧ SqT K H1 b ys ∧ SqL K H1 c zs ∧ R (Itz3L K a b c) H1
theorem pi_z3L {X : Cx} {e e2 e3 : Expr} {ta : TA} {p pos tpos : Pos} {elts : List Expr} {kk : Nat} (hg : Gl X "zip") (hm : X.mg "zip" = none) (ha : PA X [e, e2, e3] ta)
    (hs : starEach [e, e2, e3] X.env = (false, eval e X.env) :: starEach [e2, e3] X.env := by rfl) (hpl : (backTo pos (starEach [e2, e3] X.env)).any (·.1) = false := by rfl) :
    PI X (.Tuple elts kk tpos) (.Call (.Name "zip" p) [e, e2, e3] [] pos) (iZ3L X.K ta) := by
  refine ⟨fun pins s σ H R I h => Call_ (ld_blt I hg hm PyProof.Rows.boot_zip (PyProof.Rows.callWith_type1 (thn (ha.run pos pins s σ H _ I h) fun us s1 ⟨vs, H1, I1, r1, q1⟩ => ?_) hs hpl))⟩
  obtain ⟨a, b, c, xs, ys, zs, ex, hqa, hqb, hqc, q⟩ := q1
  subst ex
  cases r1 with | cons ra r1 => cases r1 with | cons rb r1 => cases r1 with | cons rc r1 =>
    cases r1; cases ra; cases rb; cases rc
    obtain ⟨its, _, p1, _⟩ := I1.list hqa; obtain ⟨jts, _, p2, _⟩ := I1.tuple hqb; obtain ⟨kts, _, p3, _⟩ := I1.list hqc
    have la : a < s1.heap.objs.size := by obtain ⟨_, y, _⟩ := p1.isList; exact Heap.lt_size y
    have lb : b < s1.heap.objs.size := by obtain ⟨_, y, _⟩ := p2; exact Heap.lt_size y
    have lc : c < s1.heap.objs.size := by obtain ⟨_, y, _⟩ := p3.isList; exact Heap.lt_size y
    refine zip_begins3 (begins_list a its.toArray) (begins_tuple b jts.toArray) (begins_list c kts.toArray) p1.isList p2 p3.isList fun g hz hTI hTO g1 g2 g3 _ k => wpAny_pyIter_zip hz ?_
    have I2 : Inv X pins σ H1 { s1 with heap := g } := I1.kept (t' := s1.toks) k
    have sep : ZipSep3 (s1.heap.objs.size + 5) (s1.heap.objs.size + 3) (s1.heap.objs.size + 4) s1.heap.objs.size (s1.heap.objs.size + 1) (s1.heap.objs.size + 2) [s1.heap.objs.size, a] [s1.heap.objs.size + 1, b] [s1.heap.objs.size + 2, c] :=
      zip_sep3 (fp1 := [a]) (fp2 := [b]) (fp3 := [c]) (by simpa using la) (by simpa using lb) (by simpa using lc)
    refine ⟨s1.heap.objs.size + 5, [s1.heap.objs.size + 5, s1.heap.objs.size + 3, s1.heap.objs.size + 4, s1.heap.objs.size, s1.heap.objs.size + 1, s1.heap.objs.size + 2], _, _, H1, rfl, I2, turn_z3L sep (Nat.ne_of_lt la) (Nat.ne_of_lt (Nat.lt_succ_of_lt lb)) (Nat.ne_of_lt (Nat.lt_succ_of_lt (Nat.lt_succ_of_lt lc))), ⟨hz, hTI, ⟨_, _, _, hTO⟩, ⟨_, g1, rfl, rfl⟩, ⟨_, g2, rfl, rfl⟩, ⟨_, g3, rfl, rfl⟩⟩, fun m hm => ?_, q⟩
    have lm : s1.heap.objs.size ≤ m := by
      rcases (by simpa using hm : m = s1.heap.objs.size + 5 ∨ m = s1.heap.objs.size + 3 ∨ m = s1.heap.objs.size + 4 ∨ m = s1.heap.objs.size ∨ m = s1.heap.objs.size + 1 ∨ m = s1.heap.objs.size + 2) with z | z | z | z | z | z
      all_goals (rw [z]; first | exact Nat.le_add_right _ _ | exact Nat.le_refl _)
    exact I1.fpOk lm (I1.hok.fresh lm)
def ItzLT (K : PySem.W.Frag) (a b : Addr) : It :=
  ⟨fun i H => ∃ (xs ys : List V) (x y : V), SqL K H a xs ∧ SqT K H b ys ∧ xs[i]? = some x ∧ ys[i]? = some y,
    fun i H v H' => ∃ T x y, v = .ref T ∧ H T = none ∧ H' = upd H T (.tup [x, y]) ∧ (∀ xs, SqL K H a xs → xs[i]? = some x) ∧ ∀ ys, SqT K H b ys → ys[i]? = some y,
    fun i H => ∃ xs ys : List V, SqL K H a xs ∧ SqT K H b ys ∧ xs.length = i ∧ ys.length = i⟩
theorem turn_zipLT {P : Program} {w : World} {K : PySem.W.Frag} {elts : List Expr} {kk : Nat} {tpos : Pos} {a b z TI TO i1 i2 : Addr} (D : ZipSep2 z TI TO i1 i2 [i1, a] [i2, b]) (na : a ≠ i1) (nb : b ≠ i2) :
    Turn P w K (.Tuple elts kk tpos) (ItzLT K a b) [z, TI, TO, i1, i2] z (fun i h => IsZip h z TI TO .none ∧ IsTupOf2 h TI (.ref i1) (.ref i2) ∧ (∃ x y, IsTupOf2 h TO x y) ∧ h.IsListIter i1 a i ∧ h.IsTupleIter i2 b i) where
  mem := by simp
  obj := fun i h st m hm => by
    obtain ⟨hz, hTI, ⟨x, y, hTO⟩, ⟨o1, e1, _, d1⟩, ⟨o2, e2, _, d2⟩⟩ := st
    rcases (by simpa using hm : m = z ∨ m = TI ∨ m = TO ∨ m = i1 ∨ m = i2) with q | q | q | q | q
    · rw [q]; exact ⟨_, hz, fun v q => nomatch q⟩
    · rw [q]; exact ⟨_, hTI, fun v q => nomatch q⟩
    · rw [q]; exact ⟨_, hTO, fun v q => nomatch q⟩
    · rw [q]; exact ⟨o1, e1, fun v q => by rw [d1] at q; cases q⟩
    · rw [q]; exact ⟨o2, e2, fun v q => by rw [d2] at q; cases q⟩
  keep := fun i h h' st k => by
    obtain ⟨hz, hTI, ⟨x, y, hTO⟩, h1, h2⟩ := st
    exact ⟨k z (by simp) _ hz, k TI (by simp) _ hTI, ⟨x, y, k TO (by simp) _ hTO⟩, h1.at fun o q => k i1 (by simp) o q, h2.at fun o q => k i2 (by simp) o q⟩
  item := by
    intro X hP hw hK hc i pins s σ H E I hf st hg
    subst hP hw hK
    obtain ⟨hz, hTI, ⟨x0, y0, hTO⟩, h1, h2⟩ := st
    obtain ⟨xs, ys, x, y, hqx, hqy, hx, hy⟩ := hg
    obtain ⟨its, rv, p1, _⟩ := I.list hqx; obtain ⟨jts, rw2, p2, _⟩ := I.tuple hqy
    obtain ⟨u1, hu1, ru1⟩ := rv.get hx; obtain ⟨u2, hu2, ru2⟩ := rw2.get hy
    have l1 : i < its.length := (List.getElem?_eq_some_iff.mp hu1).1; have l2 : i < jts.length := (List.getElem?_eq_some_iff.mp hu2).1
    have nh : X.A.in1.handled = none := by simp [I.ok.hd hc]
    have dw1 := Draws.list (prog := X.prog) (w := X.w) (A := X.A.in1) nh i1 a na its.toArray
    have dw2 := Draws.tuple (prog := X.prog) (w := X.w) (A := X.A.in1) nh i2 b nb jts.toArray
    have zl : z < s.heap.objs.size := Heap.lt_size hz
    refine wpAny_pyNext_zipD2_item D dw1 dw2 hz hTI hTO ⟨h1, p1.isList⟩ ⟨h2, p2⟩ (by simpa using l1) (by simpa using l2) fun v1 v2 g tk q1 q2 z' TO' s1 s2 hT sz k => ?_
    have e1 := pick hu1 q1; have e2 := pick hu2 q2
    subst e1; subst e2
    refine ⟨_, rfl, wpAny_letOwnedTupleGo_zip (s := { s with heap := g, toks := tk }) z' fun g2 z'' sb => ?_⟩
    have hT2 : g2.get? s.heap.objs.size = some { cls := .type "tuple", data := .seq #[v1, v2] } := (sb.2 _ (Nat.ne_of_gt zl)).trans hT
    have new : ObjOk X.prog X.w (upd H s.heap.objs.size (.tup [x, y])) g2 s.heap.objs.size (.tup [x, y]) :=
      ⟨by show 2 ≤ sizeLine; decide, [v1, v2], .cons ru1 (.cons ru2 .nil), ⟨_, hT2, rfl, _, rfl⟩⟩
    have I2 : Inv X pins σ (upd H s.heap.objs.size (.tup [x, y])) { s with heap := g2, toks := tk } :=
      I.turnedNew (t' := tk) (ch := [z, TI, TO, i1, i2]) (fun m o hb q => (sb.2 m (fun q' => hb (by simp [q']))).trans (k m o (fun q' => hb (by simp [q'])) (fun q' => hb (by simp [q'])) (fun q' => hb (by simp [q'])) (fun q' => hb (by simp [q'])) q)) hf (Nat.le_refl _) new
    refine ⟨.ref s.heap.objs.size, _, I2, rfl, ⟨_, x, y, rfl, I.hok.fresh (Nat.le_refl _), rfl, fun l hl => by rw [I.list_inj hl hqx]; exact hx, fun l hl => by rw [I.tuple_inj hl hqy]; exact hy⟩, ⟨z'', ?_, ⟨v1, v2, ?_⟩, ?_, ?_⟩, fun m hm => ?_⟩
    · exact (sb.2 _ D.TIz).trans (k _ _ D.TIz D.TITO D.TIi1 D.TIi2 hTI)
    · exact (sb.2 _ D.TOz).trans TO'
    · exact s1.1.at fun o q => (sb.2 _ D.zi1.symm).trans q
    · exact s2.1.at fun o q => (sb.2 _ D.zi2.symm).trans q
    · have lm : m < s.heap.objs.size := by
        rcases (by simpa using hm : m = z ∨ m = TI ∨ m = TO ∨ m = i1 ∨ m = i2) with q | q | q | q | q
        · rw [q]; exact zl
        · rw [q]; exact Heap.lt_size hTI
        · rw [q]; exact Heap.lt_size hTO
        · rw [q]; obtain ⟨_, w1, _⟩ := h1; exact Heap.lt_size w1
        · rw [q]; obtain ⟨_, w1, _⟩ := h2; exact Heap.lt_size w1
      rw [upd_ne (Nat.ne_of_lt lm)]; exact (hf m hm).1
  done := by
    intro X hP hw hK hc i pins s σ H E I hf st hg
    subst hP hw hK
    obtain ⟨hz, hTI, ⟨x0, y0, hTO⟩, h1, h2⟩ := st
    obtain ⟨xs, ys, hqx, hqy, ln1, ln2⟩ := hg
    obtain ⟨its, rv, p1, _⟩ := I.list hqx; obtain ⟨jts, rw2, p2, _⟩ := I.tuple hqy
    have m1 := rv.length; have m2 := rw2.length
    have nh : X.A.in1.handled = none := by simp [I.ok.hd hc]
    have dw1 := Draws.list (prog := X.prog) (w := X.w) (A := X.A.in1) nh i1 a na its.toArray
    have dw2 := Draws.tuple (prog := X.prog) (w := X.w) (A := X.A.in1) nh i2 b nb jts.toArray
    exact wpAny_pyNext_zipD2_end D dw1 dw2 hz hTI hTO ⟨h1, p1.isList⟩ ⟨h2, p2⟩ (by simp; omega) (by simp; omega) (.inl (by simp; omega)) fun g tk k => ⟨rfl, I.turnedL (t' := tk) (ch := [z, TI, TO, i1, i2]) (fun m o hb q =>
      k m o (fun q' => hb (by simp [q'])) (fun q' => hb (by simp [q'])) (fun q' => hb (by simp [q'])) (fun q' => hb (by simp [q'])) q) hf⟩
  self := fun A i s Q E st h => wpAny_pyIter_zip st.1 h
def iZipLT (K : PySem.W.Frag) (ta : TA) : TI := fun σ H R => ta σ H fun vs H1 => ∃ a b xs ys, vs = [.ref a, .ref b] ∧ SqL K H1 a xs ∧ SqT K H1 b ys ∧ R (ItzLT K a b) H1
theorem pi_zipLT {X : Cx} {e e2 : Expr} {ta : TA} {p pos tpos : Pos} {elts : List Expr} {kk : Nat} (hg : Gl X "zip") (hm : X.mg "zip" = none) (ha : PA X [e, e2] ta)
    (hs : starEach [e, e2] X.env = (false, eval e X.env) :: starEach [e2] X.env := by rfl) (hpl : (backTo pos (starEach [e2] X.env)).any (·.1) = false := by rfl) :
    PI X (.Tuple elts kk tpos) (.Call (.Name "zip" p) [e, e2] [] pos) (iZipLT X.K ta) := by
  refine ⟨fun pins s σ H R I h => Call_ (ld_blt I hg hm PyProof.Rows.boot_zip (PyProof.Rows.callWith_type1 (thn (ha.run pos pins s σ H _ I h) fun us s1 ⟨vs, H1, I1, r1, q1⟩ => ?_) hs hpl))⟩
  obtain ⟨a, b, xs, ys, ex, hqa, hqb, q⟩ := q1
  subst ex
  cases r1 with | cons ra r1 => cases r1 with | cons rb r1 =>
    cases r1; cases ra; cases rb
    obtain ⟨its, _, p1, _⟩ := I1.list hqa; obtain ⟨jts, _, p2, _⟩ := I1.tuple hqb
    have la : a < s1.heap.objs.size := by obtain ⟨_, y, _⟩ := p1.isList; exact Heap.lt_size y
    have lb : b < s1.heap.objs.size := by obtain ⟨_, y, _⟩ := p2; exact Heap.lt_size y
    refine zip_begins2 (begins_list a its.toArray) (begins_tuple b jts.toArray) p1.isList p2 fun g hz hTI hTO g1 g2 _ k => wpAny_pyIter_zip hz ?_
    have I2 : Inv X pins σ H1 { s1 with heap := g } := I1.kept (t' := s1.toks) k
    have sep : ZipSep2 (s1.heap.objs.size + 4) (s1.heap.objs.size + 2) (s1.heap.objs.size + 3) s1.heap.objs.size (s1.heap.objs.size + 1) [s1.heap.objs.size, a] [s1.heap.objs.size + 1, b] :=
      zip_sep2 (fp1 := [a]) (fp2 := [b]) (by simpa using la) (by simpa using lb)
    refine ⟨s1.heap.objs.size + 4, [s1.heap.objs.size + 4, s1.heap.objs.size + 2, s1.heap.objs.size + 3, s1.heap.objs.size, s1.heap.objs.size + 1], _, _, H1, rfl, I2, turn_zipLT sep (Nat.ne_of_lt la) (Nat.ne_of_lt (Nat.lt_succ_of_lt lb)), ⟨hz, hTI, ⟨_, _, hTO⟩, ⟨_, g1, rfl, rfl⟩, ⟨_, g2, rfl, rfl⟩⟩, fun m hm => ?_, q⟩
    have lm : s1.heap.objs.size ≤ m := by
      rcases (by simpa using hm : m = s1.heap.objs.size + 4 ∨ m = s1.heap.objs.size + 2 ∨ m = s1.heap.objs.size + 3 ∨ m = s1.heap.objs.size ∨ m = s1.heap.objs.size + 1) with z | z | z | z | z
      all_goals (rw [z]; first | exact Nat.le_add_right _ _ | exact Nat.le_refl _)
    exact I1.fpOk lm (I1.hok.fresh lm)
end Enz
namespace Dat
open PySem PySem.Spec PyProof.Rows L2
theorem zip3LQ {X : Cx} {K : PySem.W.Frag} [Tb K] {e e2 e3 : Expr} {ta : TA} {p pos tpos : Pos} {elts : List Expr} {kk : Nat} (hK : X.K = K) (hg : Gl X "zip") (hm : X.mg "zip" = none) (ha : PA X [e, e2, e3] ta)
    (hs : starEach [e, e2, e3] X.env = (false, eval e X.env) :: starEach [e2, e3] X.env := by rfl) (hpl : (backTo pos (starEach [e2, e3] X.env)).any (·.1) = false := by rfl) :
    PI X (.Tuple elts kk tpos) (.Call (.Name "zip" p) [e, e2, e3] [] pos) (Enz.iZ3L K ta) := by
  subst hK
  exact Enz.pi_z3L hg hm ha hs hpl
theorem zipLTQ {X : Cx} {K : PySem.W.Frag} {e e2 : Expr} {ta : TA} {p pos tpos : Pos} {elts : List Expr} {kk : Nat} (hK : X.K = K) (hg : Gl X "zip") (hm : X.mg "zip" = none) (ha : PA X [e, e2] ta)
    (hs : starEach [e, e2] X.env = (false, eval e X.env) :: starEach [e2] X.env := by rfl) (hpl : (backTo pos (starEach [e2] X.env)).any (·.1) = false := by rfl) :
    PI X (.Tuple elts kk tpos) (.Call (.Name "zip" p) [e, e2] [] pos) (Enz.iZipLT K ta) := by
  subst hK
  exact Enz.pi_zipLT hg hm ha hs hpl
section
variable {K : PySem.W.Frag} [Tb K] {Γ : List (Option Av)} {Ω : AH} {tl : TA} {ds es fs : List PyData}
theorem walk_z3L {F : Hp} {a b c : Addr} {xs ys zs : List V} (h : F a = some (.lst xs)) (g : DqAll K F xs ds) (h2 : SqT K F b ys) (g2 : DqAll K F ys es) (h3 : F c = some (.lst zs)) (g3 : DqAll K F zs fs) (hl : ds.length = es.length) (hl2 : ds.length = fs.length) : WalkA K F (Enz.Itz3L K a b c) (zip3A ds es fs) := by
  constructor
  · intro Ω H k i m e
    obtain ⟨hi, rfl⟩ := rng_at e
    obtain ⟨v, ev, hv⟩ := getD_dq g hi
    obtain ⟨u, eu, hu⟩ := getD_dq g2 (i := i) (by omega)
    obtain ⟨t, et, ht⟩ := getD_dq g3 (i := i) (by omega)
    refine ⟨⟨xs, ys, zs, v, u, t, SqL.of (k.fr.trans Fz_le _ _ h), sqT_same (k.fr.trans Fz_le) h2, SqL.of (k.fr.trans Fz_le _ _ h3), ev, eu, et⟩, fun x H' hy => ?_⟩
    obtain ⟨T, x2, y2, z2, rfl, nT, rfl, f, f2, f3⟩ := hy
    have t1 := f xs (SqL.of (k.fr.trans Fz_le _ _ h))
    have t2 := f2 ys (sqT_same (k.fr.trans Fz_le) h2)
    have t3 := f3 zs (SqL.of (k.fr.trans Fz_le _ _ h3))
    rw [ev] at t1
    rw [eu] at t2
    rw [et] at t3
    cases t1
    cases t2
    cases t3
    exact ⟨same_new nT, .dat (tup_new k nT (.cons (hv.same k.fr) (.cons (hu.same k.fr) (.cons (ht.same k.fr) .nil))))⟩
  · intro Ω H k
    have := g.length
    have := g2.length
    have := g3.length
    refine ⟨xs, ys, zs, SqL.of (k.fr.trans Fz_le _ _ h), sqT_same (k.fr.trans Fz_le) h2, SqL.of (k.fr.trans Fz_le _ _ h3), ?_, ?_, ?_⟩ <;> (simp [zip3A]; omega)
theorem walk_zipLT {F : Hp} {a b : Addr} {xs ys : List V} (h : F a = some (.lst xs)) (g : DqAll K F xs ds) (h2 : SqT K F b ys) (g2 : DqAll K F ys es) (hl : ds.length = es.length) : WalkA K F (Enz.ItzLT K a b) (zipA ds es) := by
  constructor
  · intro Ω H k i c e
    obtain ⟨hi, rfl⟩ := rng_at e
    obtain ⟨v, ev, hv⟩ := getD_dq g hi
    obtain ⟨u, eu, hu⟩ := getD_dq g2 (i := i) (by omega)
    refine ⟨⟨xs, ys, v, u, SqL.of (k.fr.trans Fz_le _ _ h), sqT_same (k.fr.trans Fz_le) h2, ev, eu⟩, fun x H' hy => ?_⟩
    obtain ⟨T, x2, y2, rfl, nT, rfl, f, f2⟩ := hy
    have t1 := f xs (SqL.of (k.fr.trans Fz_le _ _ h))
    have t2 := f2 ys (sqT_same (k.fr.trans Fz_le) h2)
    rw [ev] at t1
    rw [eu] at t2
    cases t1
    cases t2
    exact ⟨same_new nT, .dat (tup_new k nT (.cons (hv.same k.fr) (.cons (hu.same k.fr) .nil)))⟩
  · intro Ω H k
    have := g.length
    have := g2.length
    refine ⟨xs, ys, SqL.of (k.fr.trans Fz_le _ _ h), sqT_same (k.fr.trans Fz_le) h2, ?_, ?_⟩ <;> (simp [zipA]; omega)
theorem i_z3L {P : List Av → AH → Prop} (h : AW K tl Γ Ω fun as Ω1 => ∃ ds es fs, as = [.dat (.list ds), .dat (.tuple es), .dat (.list fs)] ∧ ds.length = es.length ∧ ds.length = fs.length ∧ P (zip3A ds es fs) Ω1) : IW K (Enz.iZ3L K tl) Γ Ω P := fun F σ H R k q =>
  h F σ H _ k fun as vs Ω1 H1 ⟨ds, es, fs, e, hl, hl2, hp⟩ k1 v1 => by
    subst e
    cases v1 with | cons va v1 => cases v1 with | cons vb v1 => cases v1 with | cons vc v1 => cases v1; cases va with | dat va => cases vb with | dat vb => cases vc with | dat vc => cases va with | lst hs g => cases vb with | tup hs2 g2 => cases vc with | lst hs3 g3 =>
      exact ⟨_, _, _, _, _, _, rfl, SqL.of (Fz_le _ _ hs), sqT_same Fz_le hs2, SqL.of (Fz_le _ _ hs3), q _ _ _ _ hp k1 (walk_z3L hs g hs2 g2 hs3 g3 hl hl2)⟩
theorem i_zipLT {P : List Av → AH → Prop} (h : AW K tl Γ Ω fun as Ω1 => ∃ ds es, as = [.dat (.list ds), .dat (.tuple es)] ∧ ds.length = es.length ∧ P (zipA ds es) Ω1) : IW K (Enz.iZipLT K tl) Γ Ω P := fun F σ H R k q =>
  h F σ H _ k fun as vs Ω1 H1 ⟨ds, es, e, hl, hp⟩ k1 v1 => by
    subst e
    cases v1 with | cons va v1 => cases v1 with | cons vb v1 => cases v1; cases va with | dat va => cases vb with | dat vb => cases va with | lst hs g => cases vb with | tup hs2 g2 =>
      exact ⟨_, _, _, _, rfl, SqL.of (Fz_le _ _ hs), sqT_same Fz_le hs2, q _ _ _ _ hp k1 (walk_zipLT hs g hs2 g2 hl)⟩
end
end Dat

set_option Elab.async false
set_option linter.all false
set_option maxRecDepth 100000
set_option maxHeartbeats 2000000
/-! walks over lists that may change; what is told of fewer lists -/
namespace Dat
open PySem PySem.Spec PyProof.Rows L2
section
variable {K : PySem.W.Frag} [Tb K] {Γ : List (Option Av)} {Ω : AH} {E : EndA} {te : TE} {t : TS} {tt : TT} {g : TG} {p : Addr} {ds : List PyData}
theorem Fz_sub {Ω Ω2 : AH} {H : Hp} (s : ∀ q bs, Ω2 q = some bs → Ω q = some bs) (so : Ω2.o = Ω.o) : Same (Fz Ω H) (Fz Ω2 H) := fun a o e => by
  obtain ⟨n, h2, h3⟩ := Fz_of e
  have m : Ω2 a = none := by
    cases e2 : Ω2 a with
    | none => rfl
    | some bs =>
      have n1 : Ω a = none := n.1
      rw [s a bs e2] at n1
      cases n1
  exact Fz_to ⟨m, by rw [so]; exact n.2⟩ h2 h3
theorem Ok.sub {F H : Hp} {σ : L2.St} {Ω2 : AH} (k : Ok K F Ω Γ σ H) (s : ∀ q bs, Ω2 q = some bs → Ω q = some bs) (so : Ω2.o = Ω.o) : Ok K F Ω2 Γ σ H := by
  have z := Fz_sub (H := H) s so
  refine ⟨k.fr.trans z, fun q bs hq => ?_, k.sl.same z, k.tb, fun q u hq => ?_⟩
  · obtain ⟨xs, h1, h2⟩ := k.st q bs (s q bs hq)
    exact ⟨xs, h1, h2.same z⟩
  · rw [so] at hq
    obtain ⟨x, h1, h2⟩ := k.ob q u hq
    exact ⟨x, h1, h2.same z⟩
theorem EW.sub {P : Av → AH → Prop} (h : EW K te Γ Ω fun a Ω' => ∃ Ω2 : AH, (∀ q bs, Ω2 q = some bs → Ω' q = some bs) ∧ Ω2.o = Ω'.o ∧ P a Ω2) : EW K te Γ Ω P := fun F σ H Q k q =>
  h F σ H Q k fun a v Ω' H' ⟨Ω2, s, so, hp⟩ k' hv => q a v Ω2 H' hp (k'.sub s so) (hv.same (Fz_sub s so))
theorem s_sub {Ω2 : AH} (s : ∀ q bs, Ω2 q = some bs → Ω q = some bs) (h : SW K t Γ Ω2 E) (so : Ω2.o = Ω.o := by rfl) : SW K t Γ Ω E := fun F σ H D k e => h F σ H D (k.sub s so) e
theorem put_self {as : List Av} (h : Ω p = some as) : put Ω p as = Ω := put_id h
theorem r_tupPk {P : Av → AH → Prop} (o : Ω p = some (ds.map .dat)) (h : P (.dat (.tuple ds)) Ω) : R1W K (kTup K) (.ptr p) Ω P := fun F H x Q k hx q => by
  cases hx
  obtain ⟨ys, h1, h2⟩ := k.st p _ o
  exact .inl ⟨_, _, rfl, SqL.of h1, fun u nu => q _ _ _ _ h (k.same (same_new nu)) (.dat (tup_new k nu h2.dats))⟩
structure WalkC (K : PySem.W.Frag) [Tb K] (F : Hp) (J : It) (as : List Av) (C : AH → Prop) : Prop where
  go : ∀ (Ω : AH) (H : Hp), Ok K F Ω [] [] H → C Ω → ∀ i a, as[i]? = some a → J.go i H ∧ ∀ x H', J.yld i H x H' → Same H H' ∧ VOk K (Fz Ω H') a x
  stop : ∀ (Ω : AH) (H : Hp), Ok K F Ω [] [] H → C Ω → J.stop as.length H
def IWC (K : PySem.W.Frag) [Tb K] (wi : TI) (Γ : List (Option Av)) (Ω : AH) (P : List Av → (AH → Prop) → AH → Prop) : Prop :=
  ∀ (F : Hp) (σ : L2.St) (H : Hp) (R : It → Hp → Prop), Ok K F Ω Γ σ H → (∀ as C Ω' H' J, P as C Ω' → Ok K F Ω' Γ σ H' → WalkC K (Fz Ω' H') J as C → R J H') → wi σ H R
theorem walk_p {F : Hp} {as : List Av} : WalkC K F (Itl K p) as (fun Ω => Ω p = some as) := by
  constructor
  · intro Ω H k c i b e
    obtain ⟨xs, h1, h2⟩ := k.st p as c
    obtain ⟨v, ev, hv⟩ := h2.get e
    have hs : SqL K H p xs := SqL.of h1
    refine ⟨⟨xs, v, hs, ev⟩, fun x H' hy => ?_⟩
    obtain ⟨rfl, f⟩ := hy
    have := f xs hs
    rw [ev] at this
    cases this
    exact ⟨Same.refl _, hv⟩
  · intro Ω H k c
    obtain ⟨xs, h1, h2⟩ := k.st p as c
    exact ⟨xs, SqL.of h1, by rw [h2.length]; exact Nat.le_refl _⟩
theorem i_ptr {P : List Av → (AH → Prop) → AH → Prop} (h : EW K te Γ Ω fun a Ω1 => ∃ p as, a = .ptr p ∧ Ω1 p = some as ∧ P as (fun Ω' => Ω' p = some as) Ω1) : IWC K (iList K te) Γ Ω P := fun F σ H R k q =>
  h F σ H _ k fun a v Ω1 H1 ⟨p, as, e, ep, hp⟩ k1 v1 => by
    subst e
    cases v1
    obtain ⟨xs, h1, _⟩ := k1.st p as ep
    exact ⟨p, rfl, ⟨xs, SqL.of h1⟩, q _ _ _ _ _ hp k1 walk_p⟩
theorem s_forC {wi : TI} (M : List Av → Nat → List (Option Av) → AH → Prop) (h : IWC K wi Γ Ω fun as C Ω1 => M as 0 Γ Ω1 ∧ (∀ i Γ' Ω', M as i Γ' Ω' → C Ω') ∧
      (∀ i a Γ' Ω', as[i]? = some a → M as i Γ' Ω' → GW K g a Γ' Ω' fun Γ2 Ω2 => SW K t Γ2 Ω2 { E with nx := M as (i + 1), ct := M as (i + 1), bk := E.nx }) ∧ ∀ Γ' Ω', M as as.length Γ' Ω' → E.nx Γ' Ω') : SW K (tFor wi g t) Γ Ω E := fun F σ H D k e =>
  h F σ H _ k fun as C Ω1 H1 J ⟨h0, hC, hs, hd⟩ k1 wk => by
    have e1 := e.anchor k1.fr
    refine ⟨fun i m σ' H' => m = as.length - i ∧ i ≤ as.length ∧ ∃ Γ' Ω', M as i Γ' Ω' ∧ Ok K (Fz Ω1 H1) Ω' Γ' σ' H', ⟨_, rfl, Nat.zero_le _, Γ, Ω1, h0, k1.re⟩, ?_⟩
    rintro i m σ' H' ⟨rfl, hi, Γ', Ω', hm, k'⟩
    by_cases hlt : i < as.length
    · obtain ⟨hg, hy⟩ := wk.go Ω' H' k'.bare (hC i Γ' Ω' hm) i _ (List.getElem?_eq_getElem hlt)
      refine .inr ⟨hg, fun σ2 H2 => ∃ Γ2 Ω2, M as (i + 1) Γ2 Ω2 ∧ Ok K (Fz Ω1 H1) Ω2 Γ2 σ2 H2, fun σ2 H2 ⟨Γ2, Ω2, hm2, k2⟩ => ⟨_, by omega, rfl, by omega, Γ2, Ω2, hm2, k2⟩, fun x H2 hyx => ?_⟩
      obtain ⟨s2, v2⟩ := hy x H2 hyx
      exact hs i _ Γ' Ω' (List.getElem?_eq_getElem hlt) hm (Fz Ω1 H1) σ' H2 x _ (k'.same s2) v2 fun Γ3 σ3 Ω3 H3 h3 k3 =>
        h3 (Fz Ω1 H1) σ3 H3 _ k3 ⟨fun Γ4 σ4 Ω4 H4 h4 k4 => ⟨Γ4, Ω4, h4, k4⟩, e1.rt, e1.nx, fun Γ4 σ4 Ω4 H4 h4 k4 => ⟨Γ4, Ω4, h4, k4⟩⟩
    · have ei : i = as.length := by omega
      subst ei
      exact .inl ⟨wk.stop Ω' H' k'.bare (hC _ Γ' Ω' hm), e1.nx _ _ _ _ (hd Γ' Ω' hm) k'⟩
theorem e_lcC {wi : TI} {vs : List Nat} {P : Av → AH → Prop} (hg : GN g vs) (M : Addr → List Av → (AH → Prop) → Nat → List Av → AH → Prop)
    (h : IWC K wi Γ Ω fun as C Ω1 => as.length ≤ 50000 ∧ ∀ D, Ω1 D = none → M D as C 0 [] (put Ω1 D []) ∧ (∀ i acc Ω', M D as C i acc Ω' → C Ω') ∧
      (∀ i a acc Ω', as[i]? = some a → M D as C i acc Ω' → Ω' D = some acc ∧ acc.length ≤ i ∧ GW K g a (wipeA Γ vs) Ω' fun Γ2 Ω2 => TW K tt Γ2 Ω2 fun b Ω3 =>
        (b = true → EW K te Γ2 Ω3 fun y Ω4 => Ω4 D = some acc ∧ M D as C (i + 1) (acc ++ [y]) (put Ω4 D (acc ++ [y]))) ∧ (b = false → M D as C (i + 1) acc Ω3)) ∧
      ∀ acc Ω', M D as C as.length acc Ω' → P (.ptr D) Ω') : EW K (tLc wi g tt te vs) Γ Ω P := fun F σ H Q k q =>
  h F σ H _ k fun as C Ω1 H1 J ⟨hz, hM⟩ k1 wk D nD => by
    obtain ⟨h0, hC, hs, hd⟩ := hM D (k1.free nD)
    refine ⟨fun i m H' => m = as.length - i ∧ i ≤ as.length ∧ ∃ acc Ω', M D as C i acc Ω' ∧ Ok K (Fz Ω1 H1) Ω' Γ σ H', ⟨_, rfl, Nat.zero_le _, [], put Ω1 D [], h0, k1.re.new nD .nil⟩, ?_⟩
    rintro i m H' ⟨rfl, hi, acc, Ω', hm, k'⟩
    by_cases hlt : i < as.length
    · obtain ⟨hgo, hy⟩ := wk.go Ω' H' k'.bare (hC _ _ _ hm) i _ (List.getElem?_eq_getElem hlt)
      refine .inr ⟨hgo, fun H2 => ∃ acc Ω2, M D as C (i + 1) acc Ω2 ∧ Ok K (Fz Ω1 H1) Ω2 Γ σ H2, fun H2 ⟨acc2, Ω2, hm2, k2⟩ => ⟨_, by omega, rfl, by omega, acc2, Ω2, hm2, k2⟩, fun x H2 hyx => ?_⟩
      obtain ⟨s2, v2⟩ := hy x H2 hyx
      obtain ⟨eD, la, hb⟩ := hs i _ acc Ω' (List.getElem?_eq_getElem hlt) hm
      have k2 := k'.same s2
      refine hg x (L2.wipe σ vs) H2 _ _ (fun σ3 H3 l3 a3 q3 => ⟨wipe_agree l3 a3, q3⟩) ?_
      refine hb (Fz Ω' H2) (L2.wipe σ vs) H2 x _ (k2.re.wipe vs) v2 fun Γ3 σ3 Ω3 H3 h3 k3 => ?_
      refine h3 (Fz Ω3 H3) σ3 H3 _ k3.re fun b Ω4 H4 h4 k4 => ?_
      have k4' : Ok K (Fz Ω1 H1) Ω4 Γ σ H4 := k2.back ((k4.anchor k3.fr).bare)
      cases b with
      | true =>
        refine h4.1 rfl (Fz Ω4 H4) σ3 H4 _ k4.re fun y v Ω5 H5 ⟨e5, h5⟩ k5 v5 => ?_
        have k5' : Ok K (Fz Ω1 H1) Ω5 Γ σ H5 := k4'.back k5.bare
        obtain ⟨xs, hx, g5⟩ := k5.st D acc e5
        have l5 := g5.length
        exact ⟨xs, hx, sz_lt (by omega), _, _, h5, k5'.put e5 (g5.app (.cons v5 .nil))⟩
      | false => exact ⟨acc, Ω4, h4.2 rfl, k4'⟩
    · have ei : i = as.length := by omega
      subst ei
      exact .inl ⟨wk.stop Ω' H' k'.bare (hC _ _ _ hm), q _ _ _ _ (hd acc Ω' hm) (k'.anchor k1.fr) (.ptr D)⟩
theorem e_lcFC {α : Type} {wi : TI} {vs : List Nat} {P : Av → AH → Prop} (xs : List α) (enc : α → Av) (p : α → Bool) (out : α → PyData) (hg : GN g vs) (hz : xs.length ≤ 50000)
    (h : IWC K wi Γ Ω fun as C Ω1 => as = xs.map enc ∧ (∀ Ω', (∀ q bs, Ω1 q = some bs → Ω' q = some bs) → C Ω') ∧ (∀ x Ω', x ∈ xs → (∀ q bs, Ω1 q = some bs → Ω' q = some bs) → GW K g (enc x) (wipeA Γ vs) Ω' fun Γ2 Ω2 => Ω2 = Ω' ∧ TW K tt Γ2 Ω2 fun b Ω3 => Ω3 = Ω' ∧ b = p x ∧ (p x = true → EW K te Γ2 Ω3 fun y Ω4 => Ω4 = Ω' ∧ y = .dat (out x))) ∧
      P (.dat (.list ((xs.filter p).map out))) Ω1) : EW K (tLc wi g tt te vs) Γ Ω P := by
  refine EW.frz ?_
  refine e_lcC hg (fun D as C i acc Ω' => ∃ Ω1 : AH, Ω1 D = none ∧ as = xs.map enc ∧ acc = (((xs.take i).filter p).map out).map .dat ∧ Ω' = put Ω1 D acc ∧ (∀ Ω', (∀ q bs, Ω1 q = some bs → Ω' q = some bs) → C Ω') ∧ (∀ x Ω', x ∈ xs → (∀ q bs, Ω1 q = some bs → Ω' q = some bs) → GW K g (enc x) (wipeA Γ vs) Ω' fun Γ2 Ω2 => Ω2 = Ω' ∧ TW K tt Γ2 Ω2 fun b Ω3 => Ω3 = Ω' ∧ b = p x ∧ (p x = true → EW K te Γ2 Ω3 fun y Ω4 => Ω4 = Ω' ∧ y = .dat (out x))) ∧
      P (.dat (.list ((xs.filter p).map out))) Ω1) fun F σ H R k q => h F σ H R k fun as C Ω1 H1 J ⟨e, hc, hb, hp⟩ k1 wk => q as C Ω1 H1 J ⟨by rw [e, List.length_map]; exact hz, fun D nD => ⟨⟨Ω1, nD, e, by simp, rfl, hc, hb, hp⟩, fun i acc Ω' hm => ?_, fun i a acc Ω' ea hm => ?_, fun acc Ω' hm => ?_⟩⟩ k1 wk
  · obtain ⟨Ω0, n0, e0, rfl, rfl, hc0, hb0, hp0⟩ := hm
    exact hc0 _ fun q bs hq => by
      rw [put_ne (ne_of_Ω hq n0)]
      exact hq
  · obtain ⟨Ω0, n0, e0, rfl, rfl, hc0, hb0, hp0⟩ := hm
    subst e0
    rw [List.getElem?_map] at ea
    cases ex : xs[i]? with
    | none => rw [ex] at ea; cases ea
    | some x =>
      rw [ex] at ea
      cases ea
      have mx : x ∈ xs := List.mem_of_getElem? ex
      have tk : (xs.take (i + 1)).filter p = (xs.take i).filter p ++ (if p x = true then [x] else []) := by
        rw [List.take_add_one, ex, List.filter_append]
        show _ ++ (List.filter p [x]) = _
        rw [List.filter_cons, List.filter_nil]
      refine ⟨put_same, ?_, ?_⟩
      · rw [List.length_map, List.length_map]
        exact Nat.le_trans (List.length_filter_le ..) (by rw [List.length_take]; omega)
      refine fun F' σ' H' v Q' k' v' q' => hb0 x _ mx (fun q bs hq => by
        rw [put_ne (ne_of_Ω hq n0)]
        exact hq) F' σ' H' v Q' k' v' fun Γ2 σ2 Ω2 H2 ⟨e2, h2⟩ k2 => q' Γ2 σ2 Ω2 H2 ?_ k2
      subst e2
      refine fun F' σ' H' Q' k' q' => h2 F' σ' H' Q' k' fun b Ω3 H3 ⟨e3, eb, h3⟩ k3 => q' b Ω3 H3 ⟨fun hb => ?_, fun hb => ?_⟩ k3
      · subst e3
        refine (h3 (eb.symm.trans hb)).mono fun y Ω4 ⟨e4, ey⟩ => ?_
        subst e4 ey
        refine ⟨put_same, Ω0, n0, rfl, ?_, by rw [put_put], hc0, hb0, hp0⟩
        rw [tk, if_pos (eb.symm.trans hb), List.map_append, List.map_append]
        rfl
      · subst e3
        refine ⟨Ω0, n0, rfl, ?_, rfl, hc0, hb0, hp0⟩
        rw [tk, if_neg (by rw [← eb, hb]; decide), List.append_nil]
  · obtain ⟨Ω0, n0, e0, rfl, rfl, hc0, hb0, hp0⟩ := hm
    refine ⟨D, _, rfl, put_same, ?_⟩
    rw [del_put n0, e0, List.length_map, List.take_length]
    exact hp0
theorem e_lcMC {α : Type} {wi : TI} {vs : List Nat} {P : Av → AH → Prop} (xs : List α) (enc : α → Av) (out : α → PyData) (hg : GN g vs) (hz : xs.length ≤ 50000)
    (h : IWC K wi Γ Ω fun as C Ω1 => as = xs.map enc ∧ (∀ Ω', (∀ q bs, Ω1 q = some bs → Ω' q = some bs) → C Ω') ∧ (∀ x Ω', x ∈ xs → (∀ q bs, Ω1 q = some bs → Ω' q = some bs) → GW K g (enc x) (wipeA Γ vs) Ω' fun Γ2 Ω2 => Ω2 = Ω' ∧ EW K te Γ2 Ω2 fun y Ω4 => Ω4 = Ω' ∧ y = .dat (out x)) ∧
      P (.dat (.list (xs.map out))) Ω1) : EW K (tLc wi g tYes te vs) Γ Ω P :=
  e_lcFC xs enc (fun _ => true) out hg hz fun F σ H R k q => h F σ H R k fun as C Ω1 H1 J ⟨e, hc, hb, hp⟩ k1 wk => q as C Ω1 H1 J ⟨e, hc, fun x Ω' mx hq F' σ' H' v Q' k' v' q' => hb x Ω' mx hq F' σ' H' v Q' k' v' fun Γ2 σ2 Ω2 H2 ⟨e2, h2⟩ k2 => q' Γ2 σ2 Ω2 H2 ⟨e2, t_yes ⟨e2, rfl, fun _ => h2⟩⟩ k2, by
    rw [List.filter_eq_self.mpr (fun _ _ => rfl)]
    exact hp⟩ k1 wk
end
end Dat

set_option Elab.async false
set_option linter.all false
set_option maxRecDepth 100000
set_option maxHeartbeats 2000000
/-! own errors whose __init__ says super().__init__(f"..{place}..") and keeps the place -/
namespace Exf
open PySem PySem.W PySem.Calls PyProof.Rows PySem.HandSPX
abbrev nSelf : Str := "self"
abbrev nPlc : Str := "place"
/-- where things stand in the text of __init__ -/
structure Spots where
  (a1 a2 : Pos) (m1 m2 : Str) (k1 k2 : Nat)
  (p1 p2 p3 p4 p5 p6 p7 p8 p9 pa pb pc pd pe : Pos)
def inA (S : Spots) : Arguments := ⟨[], [⟨nSelf, none, S.a1⟩, ⟨nPlc, none, S.a2⟩], none, [], [], none, []⟩
def inMsg (S : Spots) : Expr := .JoinedStr [.Constant (.str S.m1) S.k1 S.p1, .FormattedValue (.Name nPlc S.p2) (-1) none S.p3, .Constant (.str S.m2) S.k2 S.p4] S.p5
def inS1 (S : Spots) : Stmt := .Expr (.Call (.Attribute (.Call (.Name "super" S.p6) [] [] S.p7) "__init__" S.p8) [inMsg S] [] S.p9) S.pa
def inS2 (S : Spots) : Stmt := .Assign [.Attribute (.Name nSelf S.pb) nPlc S.pc] (.Name nPlc S.pd) S.pe
def inB (S : Spots) : List Stmt := [inS1 S, inS2 S]
def inSc : Scope := { kind := .function, names := [(nSelf, .local), (nPlc, .local), (PySem.Str.ofString "__class__", .free), (PySem.Str.ofString "super", .globalImplicit)], isGenerator := false, isCoroutine := false, more := [] }
/-- what the written part says of such a class (x at C) and its __init__ (at fI) -/
structure Plc (P : Program) (K : Frag) (mg : Str → Option Value) (x : Str) (C : Addr) : Prop where
  gC : mg x = some (.ref C)
  cls : ∃ nm q N bs bm sn sub ab col dd k0 k1 k2 k3 k5, K.lookup C = some (excClassObj nm q C N bs bm true sn sub ab col dd k0 k1 k2 k3 k5 "ValueError.__new__") ∧ refsVE bm = true
  sa : findIn K (.ref C) "__setattr__" = some (some (.builtin "object.__setattr__"))
  noN : findIn K (.ref C) nPlc = some none
  kC : keepIn K (.ref C) = true
  exC : subIn K (.ref C) (.type "BaseException") = some true
  tyC : typeIn K (.ref C) = some (.type "type")
  sup : ks_superIn K C C "__init__" = some (some (.builtin "ValueError.__init__"))
  ve : subIn K (.ref C) (.type "ValueError") = some true
  any : nsIn K cStatics "thirdparty.any" = some none
  self : mroIn K C (.ref C) = some true
  su : mg "super" = none
  file : ∃ tf : Str, (P.main.file == tf) = true ∧ (P.main.scope.names.lookup ("super" : Str)).isSome = false ∧
    ∃ (fI cda cc : Addr) (qual : Str) (oc : Value) (od : Option Addr) (doc pm : Value) (an : Option Addr) (ct : Value) (osl : Array (Option Value)) (S : Spots) (ccl cl : Value) (cdd cld : Option Addr) (vs : Array Value) (ccs csl : Array (Option Value)) (t : Tok),
      findIn K (.ref C) "__init__" = some (some (.ref fI)) ∧ typeIn K (.ref fI) = some (.type "function") ∧
      K.lookup fI = some ⟨oc, od, .func (ksFn "__init__" qual (inA S) (inB S) inSc .none .none doc pm an (.ref cda) ct cc), osl⟩ ∧ codeIn K (.ref cda) qual = true ∧
      K.lookup cda = some ⟨ccl, cdd, .fields vs, ccs⟩ ∧ vs[2]? = some (.str tf t) ∧ K.lookup cc = some ⟨cl, cld, .cell (some (.ref C)), csl⟩ ∧ S.m1.length ≤ 200 ∧ S.m2.length ≤ 200 ∧ (S.p8.endLine == S.p9.line) = true
/-- what __init__ leaves of a fresh exception at x -/
structure Left (h h' : Heap) (x C dx : Addr) (v : Value) : Prop where
  keep : ∀ b o, b ≠ x → h.get? b = some o → h'.get? b = some o
  obj : ∃ t1 : Addr, h'.get? x = some { cls := .ref C, dict := some dx, data := .fields #[.ref t1, .none, .none, .none, .bool false, .none] }
  big : h.objs.size ≤ dx
  ne : dx ≠ x
  ns : h'.Ns1 dx (fun y => if y = nPlc then some v else none)
section
variable {prog : Program} {w : World} {A : Around} {E : Value → Shared → Prop} {R : Result → Shared → Prop} {s : Shared} {K : Frag} {mg mb : Str → Option Value}
/-- the built-in's __init__, bound, is called: the arguments are laid anew -/
theorem bound_init {h : Heap} {g : Array GenState} {d : Drawn} {t : Nat} {os : OsState} {nm q : Str} {C N u x t0 : Addr} {bs bm : List Value} {sn : List Str} {sub : List Value} {ab : Bool} {col : Option Bool} {dd : Option Addr} {k0 k1 k2 k3 k5 : Option Value}
    {ws : List Value} {Q : Value → Shared → Prop} (atC : h.get? C = some (excClassObj nm q C N bs bm true sn sub ab col dd k0 k1 k2 k3 k5 "ValueError.__new__")) (atU : h.get? u = some (kxs_mw "ValueError.__init__" x)) (atX : h.get? x = some (excO C t0)) (few : ws.length ≤ sizeLine)
    (fin : ∀ h' t1, (∀ b o, b ≠ x → h.get? b = some o → h'.get? b = some o) → h'.get? x = some (excO C t1) → Q .none ⟨h', g, d, t, os⟩) :
    wpAny (model prog w) A (call (.ref u) ws) Q E ⟨h, g, d, t, os⟩ := by
  have FB := F.excBase_ValueError
  refine wpAny_call (codeAny_of_tree ?tr)
  case tr =>
    show wpAny (model prog w) A.in1 (callAny (.ref u) ⟨ws, []⟩) _ _ _
    simp only [callAny]
    refine wpAny_bind (wpAny_load atU ?ld)
    simp only [kxs_mw]
    refine KFB.if_so (by decide) (wpAny_bind (check_bound_init FB.toExcCallFacts atC atX rfl ?ck))
    refine wpAny_bind (wpAny_pure (wpAny_pure ⟨plainId_quiet FB.init.plain _, codeAny_builtin FB.initEntry ?go⟩))
    exact exc_init_tree (e := x) (t0 := t0) (cls := .ref C) (dv := none) (c2 := .none) (c3 := .none) (b4 := .bool false) atX few fun h' k e' _ => fin h' _ k e'
theorem str_len (a b : Str) : (a ++ b).length = a.length + b.length := by
  simp [Str.length, Str.cps_append]
theorem nats_ok {i : Int} {m1 m2 : Str} (hi : i.natAbs.log2 < 1920) (h1 : m1.length ≤ 200) (h2 : m2.length ≤ 200) : (Str.empty ++ m1).length ≤ sizeLine ∧ (Str.empty ++ m1 ++ (toString i : Str)).length ≤ sizeLine ∧ (Str.empty ++ m1 ++ (toString i : Str) ++ m2).length ≤ sizeLine := by
  have e := int_text_length_le (k := 1920) (by decide) hi
  have e0 : (Str.empty).length = 0 := rfl
  have e2 : ((toString i : String) : Str).length = (toString i).length := PySem.ofString_length _
  simp only [str_len, sizeLine_eq]
  omega
theorem callForm {o : Expr} {S : Spots} {env : Env} (hpos : (S.p8.endLine == S.p9.line) = true) : eval (.Call (.Attribute o "__init__" S.p8) [inMsg S] [] S.p9) env = (do
    let ov ← attributeBase o "__init__" env (eval o env)
    standAt S.p8.atName
    let (f, first) ← holding [ov] (getMethod ov "__init__" (do return (← importBound o env).getD true))
    callWith S.p9 f first (backTo S.p9 (starEach [inMsg S] env)) []) := by
  rw [arm_eval_Call]
  have m : ∀ (b : Bool), methodCallPos b o env S.p8 S.p9 = pure S.p9 := fun b => by
    unfold methodCallPos
    rw [hpos, Bool.or_true, if_pos rfl]
  unfold methodCall
  simp only [m]
  rfl
theorem plc_init {x : Str} {C fI : Addr} (T : Plc prog K mg x C) (ifI : findIn K (.ref C) "__init__" = some (some (.ref fI))) {e t0 : Addr} {i : Int} {ti : Tok} (hi : i.natAbs.log2 < 1920) (X : K.In s.heap) (hG : s.heap.Ns mainGlobals mg) (hB : s.heap.Ns builtinsNs mb) (hb : mb "super" = bootBuiltins "super")
    (hlim : s.heap.NoLimit) (hx : s.heap.get? e = some (excO C t0)) (hnx : K.lookup e = none) (hroom : A.depth < recursionLimit)
    (fin : ∀ h' tk dx, Left s.heap h' e C dx (.int i ti) → R (.ok (.ret .none)) { s with heap := h', toks := tk }) :
    codeAny (model prog w) A (.call (.ref fI) ⟨[.ref e, .int i ti], []⟩) R s := by
  obtain ⟨tf, hfile, htop, fI', cda, cc, qual, oc, od, doc, pm, an, ct, osl, S, ccl, cl, cdd, cld, vs, ccs, csl, t, i', tI, ho, hcd, hcode, hvs, hcell, hm1, hm2, hpos⟩ := T.file
  rw [ifI] at i'
  cases i'
  obtain ⟨nm, q, N, bs, bm, sn, sub, ab, col, dd, k0, k1, k2, k3, k5, hC, hbm⟩ := T.cls
  have hcl : clsIn K C = some { name := nm, bases := bs, mro := .ref C :: bm, ns := N, qualname := q, hasDict := true, slotNames := sn, subclasses := sub, abstract := ab, collection := col, hasDel := false } := by unfold clsIn; rw [hC] <;> rfl
  have hcell0 : ∀ z ∈ inSc.names, z.2 ≠ .cell := by decide
  have hloc : ∀ z ∈ [(nSelf, Value.ref e), (nPlc, Value.int i ti)], inSc.names.lookup z.1 = some .local := fun z hz => by
    rcases List.mem_cons.mp hz with rfl | hz
    · rfl
    · rw [List.mem_singleton.mp hz]
      rfl
  have hbd : BindsTo s (ksFn "__init__" qual (inA S) (inB S) inSc .none .none doc pm an (.ref cda) ct cc) ⟨[.ref e, .int i ti], []⟩ [(nSelf, .ref e), (nPlc, .int i ti)] := BindsTo.of_eq (by first | rfl | with_unfolding_all rfl)
  refine ks_codeAny_call_defAt (body := inB S) hroom (X _ _ ho) rfl hlim (codeRec_of X hcd) rfl hbd hcell0 hloc (fun h1 hns k1 => ?_) rfl rfl rfl
  have X1 : K.In h1 := X.keeps k1
  have hxL : s.heap.objs.size ≠ e := Nat.ne_of_gt (Heap.lt_size hx)
  have G1 := hG.keeps k1
  have B1 := hB.keeps k1
  have e1 := k1 _ _ hx
  refine ks_wpAt_execs_cons (ks_wpAt_Expr_any (ks_wpAt_MethodCall ?_ (callForm hpos)))
  refine ks_wpAt_super_base rfl rfl rfl rfl (X1 _ _ ho) rfl rfl rfl (X1 _ _ hcode) rfl hvs hfile htop ?_
  refine ks_loadName_global rfl rfl (loadGlobal_builtin (env := callEnv _ _ _) G1 T.su B1 (hb.trans PyProof.Rows.Boot.«super») ⟨rfl, ?_⟩)
  refine wpAny_loadName_free rfl rfl rfl ⟨_, X1 _ _ hcell, rfl⟩ ?_
  refine wpAny_loadName_local rfl rfl hns (v := .ref e) (by first | rfl | with_unfolding_all rfl) ?_
  refine ks_wpAny_isType_cls (X1 _ _ hC) rfl ⟨rfl, ?_⟩
  refine ks_wpAny_call_super (X1 _ _ hC) rfl e1 rfl (fun c z => by cases z) (looks_mroIn X1 T.self) (fun h2 so2 k2 => ?_)
  have X2 : K.In h2 := X1.keeps k2
  have e2 := k2 _ _ e1
  have eC : e ≠ C := fun z => by
    rw [z, X2 _ _ hC] at e2
    cases e2
  have al := T.sup
  unfold ks_superIn at al
  rw [hcl] at al
  have iI : InstAt h2 e (excO C t0) C none := ⟨e2, rfl, rfl, trivial⟩
  have lm : Looks (model prog w) h2 (mroOf (.ref C)) (.ref C :: bm) := fun A Q E s k q => wpAny_bind ((looks_clsIn X2 hcl) A _ E s k (wpAny_pure q))
  refine kxs_getMethod kxs_ValueError so2 (looks_opaque X2 T.any) lm rfl X2 al (iI.type.andThen (looks_subIn X2 T.ve)) eC rfl ?_
  refine kxs_callWith (i := "ValueError.__init__") (x := e) rfl (evalArgs_plain (Calls.spliced_cons ?_))
  obtain ⟨l1, l2, l3⟩ := nats_ok hi hm1 hm2
  have k3 : ∀ b o, h1.get? b = some o → (h2.push (kxs_mw "ValueError.__init__" e)).get? b = some o := fun b o z => Heap.get?_push_of_some _ (k2 b o z)
  refine wpAny_JoinedStr (v₁ := .Constant (.str S.m1) S.k1 S.p1) (pos := S.p5) ?_
  refine wpAny_Constant_str ⟨S.m1, _, rfl, l1, ?_⟩
  refine wpAny_FormattedValue_plain (wpAny_Name (wpAny_loadName_local rfl rfl (hns.keeps k3) (v := .int i ti) (by first | rfl | with_unfolding_all rfl) ?_) (by decide))
  refine wpAny_formatField_int hi ⟨toString i, _, rfl, l2, ?_⟩
  refine wpAny_Constant_str ⟨S.m2, _, rfl, l3, ?_⟩
  refine ⟨l3, Calls.spliced_nil ⟨Heap.get?_push_size h2 rfl, ?_⟩⟩
  refine bound_init (k3 _ _ (X1 _ _ hC)) (Heap.get?_push_size h2 rfl) (k3 _ _ e1) (by rw [sizeLine_eq]; exact (by decide : 1 ≤ 16777216)) fun h4 t1 k4 e4 => ?_
  have k5 : ∀ b o, b ≠ e → s.heap.get? b = some o → h4.get? b = some o := fun b o hb z => k4 b o hb (k3 b o (k1 b o z))
  have X4 : K.In h4 := fun b o z => k4 b o (fun y => by
    rw [y, hnx] at z
    cases z) (k3 b o (X1 _ _ z))
  have n4 : h4.Ns s.heap.objs.size _ := hns.at fun o z => k4 _ o hxL (k3 _ o z)
  refine ks_wpAt_execs_cons (ks_wpAt_Assign_Attr ?_)
  refine wpAt_of_wpAny (wpAny_Name (wpAny_loadName_local rfl rfl n4 (v := .int i ti) (by first | rfl | with_unfolding_all rfl) ?_) (by decide))
  refine wpAny_Name (wpAny_loadName_local rfl rfl n4 (v := .ref e) (by first | rfl | with_unfolding_all rfl) ?_) (by decide)
  refine set_plain X4 (ox := excO C t1) (od := none) ⟨e4, rfl, rfl, trivial⟩ T.sa ?_
  refine exc_osa X4 e4 hcl (show refsVE (.ref C :: bm) = true from hbm) rfl T.noN (fun h5 tk5 dx k6 dn dne hx5 hn5 => ?_)
  show PySem.wpAt _ _ _ (execs [] _) _ _ _
  have z : s.heap.objs.size < h4.objs.size := n4.lt
  exact wpAt_of_wpAny (wpAny_execs_nil (fin h5 tk5 dx ⟨fun b o hb e => k6 b o hb (k5 b o hb e), ⟨t1, hx5⟩, Nat.le_of_lt (Nat.lt_of_lt_of_le z dn), dne, hn5⟩))
/-- a made one: its object, its dict -/
structure Made (h h' : Heap) (e C d : Addr) (v : Value) : Prop where
  keep : ∀ b o, h.get? b = some o → h'.get? b = some o
  new : h.objs.size ≤ e
  obj : ∃ oe vs, h'.get? e = some oe ∧ oe.cls = .ref C ∧ oe.dict = some d ∧ oe.data = .fields vs ∧ vs[1]? = some .none
  big : h.objs.size ≤ d
  ne : d ≠ e
  ns : h'.Ns1 d (fun y => if y = nPlc then some v else none)
theorem plc_made {x : Str} {C : Addr} (T : Plc prog K mg x C) {i : Int} {ti : Tok} (hi : i.natAbs.log2 < 1920) (X : K.In s.heap) (hG : s.heap.Ns mainGlobals mg) (hB : s.heap.Ns builtinsNs mb) (hb : mb "super" = bootBuiltins "super")
    (hlim : s.heap.NoLimit) (hroom : A.depth + 1 < recursionLimit)
    (fin : ∀ h' tk e d, Made s.heap h' e C d (.int i ti) → R (.ok (.ret (.ref e))) { s with heap := h', toks := tk }) :
    codeAny (model prog w) A (.call (.ref C) ⟨[.int i ti], []⟩) R s := by
  obtain ⟨nm, q, N, bs, bm, sn, sub, ab, col, dd, k0, k1, k2, k3, k5, hC, hbm⟩ := T.cls
  obtain ⟨tf, hfile, htop, fI, cda, cc, qual, oc, od, doc, pm, an, ct, osl, S, ccl, cl, cdd, cld, vs, ccs, csl, t, ifI, tI, _⟩ := T.file
  obtain ⟨hp, g, dr, tk, os⟩ := s
  obtain ⟨hn, ehn⟩ : ∃ hn : Heap, hn = (hp.push (kdv_tup [.int i ti])).push (excO C hp.objs.size) := ⟨_, rfl⟩
  have up : ∀ b o, hp.get? b = some o → hn.get? b = some o := fun b o z => by
    rw [ehn]
    exact Heap.get?_push_of_some _ (Heap.get?_push_of_some _ z)
  have atE : hn.get? (hp.objs.size + 1) = some (excO C hp.objs.size) := by
    rw [ehn]
    heap_get
  have noE : K.lookup (hp.objs.size + 1) = none := by
    cases z : K.lookup (hp.objs.size + 1) with
    | none => rfl
    | some o =>
      have y := Heap.lt_size (X _ _ z)
      exact absurd y (Nat.not_lt.mpr (Nat.le_succ _))
  refine call_own F.excBase_ValueError (fun Y => refsVE_contains Y bm hbm) (X _ _ hC) (looks_findIn X ifI) (fun self => bind_fn X self tI) (by rw [sizeLine_eq]; exact (by decide : 1 ≤ 16777216)) ?_
  rw [← ehn]
  refine plc_init (s := ⟨hn, g, dr, tk, os⟩) T ifI hi (X.keeps up) (hG.keeps up) (hB.keeps up) hb (hlim.keeps up) atE noE hroom fun h' tk' dx L => ?_
  have sz : hn.objs.size = hp.objs.size + 1 + 1 := by
    rw [ehn, Heap.size_push, Heap.size_push]
  have big : hp.objs.size + 1 + 1 ≤ dx := by
    have z : hn.objs.size ≤ dx := L.big
    rwa [sz] at z
  obtain ⟨t1, ob⟩ := L.obj
  exact ⟨rfl, fin h' tk' (hp.objs.size + 1) dx ⟨fun b o z => L.keep b o (Nat.ne_of_lt (Nat.lt_succ_of_lt (Heap.lt_size z))) (up b o z), Nat.le_succ _, ⟨_, _, ob, rfl, rfl, rfl, rfl⟩, by show hp.objs.size ≤ dx; omega, L.ne, L.ns⟩⟩
end
end Exf
namespace L2
open PySem PySem.Spec PyProof.Rows
/-- what stands in the dict of such an error -/
abbrev plcD (i : Int) : HO := .xd [(Exf.nPlc, .int i)]
theorem plc_rel {i : Int} {t : Tok} (f : Str) : RelO (List.lookup f [(Exf.nPlc, V.int i)]) (if f = Exf.nPlc then some (.int i t) else none) := by
  by_cases z : f = Exf.nPlc
  · subst z
    rw [if_pos rfl]
    have e : List.lookup Exf.nPlc [(Exf.nPlc, V.int i)] = some (V.int i) := by simp [List.lookup]
    rw [e]
    exact ⟨t, rfl⟩
  · rw [if_neg z]
    have e0 : (f == Exf.nPlc) = false := by simpa using z
    have e : List.lookup f [(Exf.nPlc, V.int i)] = none := by simp [List.lookup, e0]
    rw [e]
    trivial
/-- C(e): the error with its place -/
def tMkP (C : Addr) (ta : TA) : St → Hp → XK → Prop := fun σ H Q => ta σ H fun us H1 => ∃ i : Int, us = [.int i] ∧ i.natAbs.log2 < 1920 ∧ ∀ d, H1 d = none → Q (.ref C) (some d) (upd H1 d (plcD i))
section
variable {X : Cx} {C : Addr} {x : Str}
theorem pmk_plc {e : Expr} {ta : TA} {p pos : Pos} {k : Nat} (T : Exf.Plc X.prog X.K X.mg x C) (hr : Room (k + 1) X.A) (he : PA X [e] ta) (hg : Gl X x) (hdb : (x == ("__debug__" : Str)) = false := by decide)
    (hs : starEach [e] X.env = (false, eval e X.env) :: starEach [] X.env := by rfl) (hpl : (backTo pos (starEach [] X.env)).any (·.1) = false := by rfl) :
    PMk X (.Call (.Name x p) [e] [] pos) (tMkP C ta) := by
  intro pins s σ H Q I h
  refine wpAny_Call_Name_kw (ld_glob I hg T.gC ?_ hdb)
  refine PySem.W.callWith_K (h₀ := X.base) I.ok.mod.kin T.kC (thn (he.run pos pins s σ H _ I h) fun us s1 hh => ?_) hs hpl
  · obtain ⟨vs, H1, I1, r1, i, ev, hi, q⟩ := hh
    subst ev
    refine ⟨I1.kIn, ?_⟩
    cases r1 with
    | cons rv rn =>
      rename_i v' us'
      cases rn
      obtain ⟨ti, rfl⟩ := rv
      show wpAny _ _ (call (.ref C) [.int i ti]) _ _ _
      obtain ⟨mb, b1, b2⟩ := I1.mod.blt
      have hlim := I1.nolimit
      have gl := I1.mod.glob.keeps I1.bk
      have bl := b1.keeps I1.bk
      have kk := I1.kIn
      obtain ⟨hp, g, dr, tk, os⟩ := s1
      refine wpAny_call (Exf.plc_made T hi kk gl bl (b2 _ (by decide)) hlim (by have := hr.dp; omega) fun h' tk' e d M => ?_)
      show MkP X pins σ Q (.ref e) ⟨h', g, dr, tk', os⟩
      obtain ⟨oe, fv, hoe, hc, hd, hdat, h1⟩ := M.obj
      obtain ⟨G, in1, out1⟩ := restrict h' fun b => decide (b ≠ e)
      have same : ∀ b, b ≠ e → G.get? b = h'.get? b := fun b hb => in1 b (decide_eq_true hb)
      have gone : G.get? e = none := out1 e (by simp)
      have J : Inv X pins σ (upd H1 d (plcD i)) ⟨G, g, dr, tk', os⟩ := I1.laid (t' := tk') (fun b o z => (same b (Nat.ne_of_lt (Nat.lt_of_lt_of_le (Heap.lt_size z) M.new))).trans (M.keep b o z)) M.big
        ⟨_, M.ns.at (fun o z => (same d M.ne).trans z), fun f => plc_rel f⟩
      refine ⟨e, oe, fv, ⟨G, g, dr, tk', os⟩, _, .ref C, some d, rfl, J, fun b o z => ?_, gone, hoe, ⟨hc, hd⟩, hdat, h1, ?_, rfl, I1.bare, raises_own T.exC T.tyC, q d (I1.hok.fresh M.big)⟩
      · by_cases hb : b = e
        · have z' : G.get? b = some o := z
          rw [hb, gone] at z'
          cases z'
        · exact (same b hb).symm.trans z
      · rw [upd_ne (Ne.symm M.ne)]
        exact I1.hok.fresh M.new
end
end L2

set_option Elab.async false
set_option linter.all false
set_option maxRecDepth 100000
set_option maxHeartbeats 2000000
/-! isinstance of an own error that bears a dict -/
namespace Exf
open PySem PySem.W PySem.Calls PyProof.Rows PySem.Spec L2
section
variable {prog : Program} {w : World} {A : Around} {E : Value → Shared → Prop} {K : Frag} {x D : Addr} {ox : Obj} {od : Option Obj}
theorem bindsCls (T : ExcC K D) : findObj K D od "__class__" = some (.bind (.builtin "getset_descriptor.__get__") (.builtin "object.__class__")) := by
  obtain ⟨cd, hc, _⟩ := any_some T.hd
  unfold findObj
  rw [hc, Option.bind_some, T.ha, Option.bind_some]
  simp [T.hn, T.ht]
theorem asksCls (T : ExcC K D) {hh : Heap} {g : Array GenState} {d : Drawn} {t : Nat} {os : OsState} {Q : Option Value → Shared → Prop} (X : K.In hh) (I : InstAt hh x ox D od) (fin : Q (some (.ref D)) ⟨hh, g, d, t + 1, os⟩) :
    wpAny (model prog w) A (getAttr? (.ref x) "__class__") Q E ⟨hh, g, d, t, os⟩ := by
  have kTy := I.type (M := model prog w)
  have kGa := looks_findIn (M := model prog w) X T.hg
  have kGg := looks_findIn (M := model prog w) X T.hk
  have kF := looks_find (M := model prog w) X I (bindsCls T)
  have kB : Looks (model prog w) hh
      (isInstance (.ref x) (.type "BaseException")) true := kTy.andThen (looks_subIn X T.hs)
  have no1 : (Value.builtin "BaseException.__getattribute__" ==
      Value.builtin "object.__getattribute__") = false := by decide +kernel
  have no2 : (onTheHeap (Value.ref D) &&
      Value.builtin "BaseException.__getattribute__" == Value.builtin "object.__getattribute__") = false := by
    rw [no1]
    rfl
  have no3 : (false && onTheHeap (Value.builtin "BaseException.__getattribute__")) = false :=
    rfl
  have SGA := PySem.F.excAttr_ValueError.ga
  unfold getAttr? getAttrBy? getAttrBy
  refine wpAny_bind (wpAny_mkText (wpAny_bind (wpAny_attempt (wpAny_holding (wpAny_bind (kTy.at (wpAny_bind (kGa.at ?_))))))))
  show wpAny _ _ (if (onTheHeap (Value.ref D) &&
      Value.builtin "BaseException.__getattribute__" == Value.builtin "object.__getattribute__") = true then _ else _) _ _ _
  rw [no2, if_neg Bool.false_ne_true]
  unfold getAttrByItsOwn hookBefore
  refine wpAny_bind ?hook
  rw [if_pos (show onTheHeap (Value.ref D) = true by rfl)]
  refine kGg.at (wpAny_bind (wpAny_attempt (wpAny_holding ?own)))
  unfold callGetattribute
  rw [no3, if_neg Bool.false_ne_true]
  unfold boundAndCalled
  rw [SGA.bind (.ref x)]
  refine wpAny_bind (wpAny_pure ?called)
  show wpAny _ _ (call (.builtin "BaseException.__getattribute__")
    [.ref x, .str "__class__" t]) _ _ _
  refine wpAny_call (codeAny_call_builtin SGA.plain PySem.F.entry_bexc_ga ?code)
  refine @check_slot (model prog w) _ _ ⟨hh, g, d, t + 1, os⟩
    "BaseException.__getattribute__" "BaseException" "__getattribute__" (.ref x) [.str "__class__" t] [] _
    (by decide +kernel) (by decide +kernel) kB (PySem.F.args_bexc_ga (.ref x) (.str "__class__" t)) ?body
  unfold Builtin.«object.__getattribute__»
  refine wpAny_bind (wpAny_of_eq (a := ((Value.ref x : Value), [Value.str "__class__" t]))
    (by first | rfl | (simp only [slotArgs]; rfl)) ?_)
  refine wpAny_bind (wpAny_pure (wpAny_bind (kTy.at (wpAny_bind (kF.at ?_)))))
  show wpAny _ _ (holding [Value.builtin "object.__class__"]
    (call (.builtin "getset_descriptor.__get__") [.builtin "object.__class__", .ref x, .ref D]) >>= ret) _ _ _
  refine wpAny_bind (wpAny_holding (wpAny_call (class_get (s := ⟨hh, g, d, t + 1, os⟩) X I T.hm (wpAny_pure ?_))))
  show wpAny _ _ (handedOut (.ref D)) _ _ _
  rw [handedOut_of (v := .ref D) (by rfl)]
  first | exact wpAny_pure (wpAny_pure fin) | exact wpAny_pure fin | exact wpAny_pure (wpAny_bind (wpAny_pure (wpAny_pure fin)))
theorem kitE (T : ExcC K D) : KitX K (.ref x) (.ref D) (fun h => ∃ ox od, InstAt h x ox D od) where
  ty := fun _ _ _ ⟨_, _, I⟩ => I.type
  it := fun _ _ X _ => by
    obtain ⟨cd, hc, _⟩ := any_some T.hd
    unfold clsIn at hc
    split at hc
    · next c' d' cd' sl' ho =>
      intro A' Q' E' s' k q
      unfold isType loadHead
      exact wpAny_bind (wpAny_loadPart (k _ _ (X _ _ ho)) (wpAny_pure q))
    · cases hc
  ne := fun h tp dd its n sl X at_ => by
    obtain ⟨cd, hc, _⟩ := any_some T.hd
    refine Bool.eq_false_iff.mpr fun q => ?_
    obtain rfl : D = tp := Value.ref.inj (beq_iff_eq.mp q)
    unfold clsIn at hc
    split at hc
    · next c' d' cd' sl' ho =>
      cases (X _ _ ho).symm.trans at_
    · cases hc
  ca := fun {_ _ _ _ _ s} X ⟨_, _, I⟩ k => by
    obtain ⟨hh, g, d, t, os⟩ := s
    exact asksCls T X I k
end
end Exf
namespace L2
open PySem PySem.Spec PyProof.Rows
/-- isinstance(e, c), e the error that the suite holds, with its dict -/
def rIsP (K : PySem.W.Frag) (cls : Value) (d : Option Addr) (a : Addr) : List V → Hp → VK → Prop := fun xs H Q =>
  ∃ (D : Addr) (c : V) (cv : Value) (b : Bool), cls = .ref D ∧ ExcC K D ∧ xs = [.ref a, c] ∧ (∀ u, RelV c u → u = cv) ∧ PySem.W.kitOne K (.ref D) cv = some b ∧ (∀ dd, d = some dd → ∃ fs, H dd = some (.xd fs)) ∧ Q (.bl b) H
theorem call_isP {X : Cx} {a : Addr} {oe : Obj} {pn : List (Addr × Obj)} {cls : Value} {d : Option Addr} (hz : Zc cls d oe) (hf : ∃ vs, oe.data = .fields vs) : CallR (X.suite a ((a, oe) :: pn)) (.builtin "isinstance") (rIsP X.K cls d a) := by
  intro pins s σ H xs us Q I r h
  obtain ⟨D, c, cv, b, rfl, T, rfl, hcv, e, hd, q⟩ := h
  cases r with
  | cons rx rr =>
    cases rr with
    | cons rt rr =>
      cases rr
      cases rx
      have ec := hcv _ rt
      subst ec
      have hget := (I.pin (a, oe) (List.mem_append.mpr (.inl List.mem_cons_self))).1
      obtain ⟨vs, hv⟩ := hf
      have J : ∃ ox od, PySem.W.InstAt s.heap a ox D od := by
        obtain ⟨h1, h2⟩ := hz
        cases d with
        | none => exact ⟨oe, none, hget, h1, by unfold PySem.W.notCls; rw [hv], by rw [h2]; trivial⟩
        | some dd =>
          obtain ⟨fs, ed⟩ := hd dd rfl
          obtain ⟨mA, hns, _⟩ := (show ObjOk X.prog X.w H s.heap dd (.xd fs) from I.hok dd _ ed)
          obtain ⟨od, ho, _⟩ := lookIn_ns hns
          exact ⟨oe, some od, hget, h1, by unfold PySem.W.notCls; rw [hv], by rw [h2]; exact ho⟩
      exact PySem.W.kia_one (Exf.kitE T) I.kIn J e (fun z => nomatch z) fun tk => ⟨.bl b, H, I.kept (t' := tk) fun _ _ z => z, rfl, q⟩
end L2

set_option Elab.async false
set_option linter.all false
set_option maxRecDepth 100000
set_option maxHeartbeats 1000000
/-! defs that raise own errors, with a place or without; try .. except: over data -/
namespace Dat
open PySem PySem.Spec PyProof.Rows L2
/-- what is wished where an error of a class flies, with its place if it bears one -/
abbrev XAY := Value → Option Int → List (Option Av) → AH → Prop
def PlOk (F : Hp) : Option Int → Option Addr → Prop
  | none, d => d = none
  | some i, d => ∃ a, d = some a ∧ F a = some (plcD i)
theorem PlOk.same {F F' : Hp} (s : Same F F') : ∀ {pl : Option Int} {d : Option Addr}, PlOk F pl d → PlOk F' pl d
  | none, _, h => h
  | some _, _, ⟨a, e, h⟩ => ⟨a, e, s _ _ h⟩
def XOkY (K : PySem.W.Frag) [Tb K] (F : Hp) (xc : XAY) (W : WX) : Prop := ∀ cls pl d Γ σ Ω H, xc cls pl Γ Ω → Ok K F Ω Γ σ H → PlOk (Fz Ω H) pl d → W cls d σ H
def SWY (K : PySem.W.Frag) [Tb K] (W : WX) (ts : TS) (Γ : List (Option Av)) (Ω : AH) (E : EndA) (xc : XAY) : Prop :=
  ∀ (F : Hp) (σ : L2.St) (H : Hp) (D : Ends), Ok K F Ω Γ σ H → EndOk K F E D → XOkY K F xc W → ts D σ H
abbrev ASpY := List Av → AH → (Av → AH → Prop) → (Value → Option Int → AH → Prop) → Prop
def spY (K : PySem.W.Frag) [Tb K] (sp : ASpY) : Sp := fun vs H Q E => ∃ (F : Hp) (Ω : AH) (as : List Av) (P : Av → AH → Prop) (PX : Value → Option Int → AH → Prop), Ok K F Ω [] [] H ∧ VAll K (Fz Ω H) as vs ∧ sp as Ω P PX ∧
  (∀ a v Ω' H', P a Ω' → Ok K F Ω' [] [] H' → VOk K (Fz Ω' H') a v → Q v H') ∧ ∀ cls pl d Ω' H', PX cls pl Ω' → Ok K F Ω' [] [] H' → PlOk (Fz Ω' H') pl d → E cls d H'
/-- .. where nothing is raised -/
def noY (sp : ASpY) : ASp := fun as Ω P => sp as Ω P fun _ _ _ => False
def tRaiseY (C : Addr) (W : WX) : TS := fun _ σ H => W (.ref C) none σ H
def tRaiseY1 (C : Addr) (te : TE) (W : WX) : TS := fun _ σ H => te σ H fun _ H1 => W (.ref C) none σ H1
def tRaiseP (C : Addr) (ta : TA) (W : WX) : TS := fun _ σ H => tMkP C ta σ H fun cls d H' => W cls d σ H'
/-- the caught error, as a value, with its dict -/
def exA (a : Addr) : Option Int → Option Addr → Av
  | some i, some d => .fn a [(d, plcD i)] []
  | _, _ => .fn a [] []
section
variable {K : PySem.W.Frag} [Tb K] {Γ : List (Option Av)} {Ω : AH} {E : EndA} {xc : XAY} {W : WX} {te : TE} {t u : TS} {tt : TT} {tl : TA} {i : Nat} {C : Addr}
theorem exA_ok {F : Hp} {a : Addr} : ∀ {pl : Option Int} {d : Option Addr}, PlOk F pl d → VOk K F (exA a pl d) (.ref a)
  | none, _, _ => .fn (fun _ m => by cases m) fun _ m => by cases m
  | some i, _, ⟨d, e, h⟩ => by
    subst e
    exact .fn (fun p m => by rw [List.mem_singleton.mp m]; exact h) fun _ m => by cases m
theorem SWY.of (h : SW K t Γ Ω E) : SWY K W t Γ Ω E xc := fun F σ H D k e _ => h F σ H D k e
theorem sy_seq (h : SWY K W t Γ Ω { E with nx := fun Γ' Ω' => SWY K W u Γ' Ω' E xc } xc) : SWY K W (tSeq t u) Γ Ω E xc := fun F σ H D k e x =>
  h F σ H { D with nx := u D } k ⟨fun Γ' σ' Ω' H' h' k' => h' F σ' H' D k' e x, e.rt, e.bk, e.ct⟩ x
theorem sy_seqM (M : List (Option Av) → AH → Prop) (h : SWY K W t Γ Ω { E with nx := M } xc) (h2 : ∀ Γ' Ω', M Γ' Ω' → SWY K W u Γ' Ω' E xc) : SWY K W (tSeq t u) Γ Ω E xc := fun F σ H D k e x =>
  h F σ H { D with nx := u D } k ⟨fun Γ' σ' Ω' H' hm k' => h2 Γ' Ω' hm F σ' H' D k' e x, e.rt, e.bk, e.ct⟩ x
theorem sy_if (h : TW K tt Γ Ω fun b Ω1 => (b = true → SWY K W t Γ Ω1 E xc) ∧ (b = false → SWY K W u Γ Ω1 E xc)) : SWY K W (tIfS tt t u) Γ Ω E xc := fun F σ H D k e x =>
  h F σ H _ k fun b Ω1 H1 hp k1 => by
    cases b with
    | true => exact hp.1 rfl F σ H1 D k1 e x
    | false => exact hp.2 rfl F σ H1 D k1 e x
theorem sy_raise (h : xc (.ref C) none Γ Ω) : SWY K W (tRaiseY C W) Γ Ω E xc := fun F σ H D k e x => x _ _ _ _ _ _ _ h k rfl
theorem sy_raise1 (h : EW K te Γ Ω fun _ Ω1 => xc (.ref C) none Γ Ω1) : SWY K W (tRaiseY1 C te W) Γ Ω E xc := fun F σ H D k e x => h F σ H _ k fun a v Ω1 H1 h1 k1 v1 => x _ _ _ _ _ _ _ h1 k1 rfl
theorem sy_raiseP (h : AW K tl Γ Ω fun as Ω1 => ∃ z : Int, as = [.dat (.int z)] ∧ z.natAbs.log2 < 1920 ∧ xc (.ref C) (some z) Γ Ω1) : SWY K W (tRaiseP C tl W) Γ Ω E xc := fun F σ H D k e x =>
  h F σ H _ k fun as vs Ω1 H1 ⟨z, ea, hz, h1⟩ k1 v1 => by
    subst ea
    cases v1 with
    | cons v1 r1 =>
      cases r1
      cases v1 with
      | dat v1 =>
        cases v1
        exact ⟨z, rfl, hz, fun d nd => x _ _ _ _ _ _ _ h1 (k1.same (same_new nd)) ⟨d, rfl, Fz_at (k1.off nd)⟩⟩
/-- a call that may raise, as a statement; what it returns is bound, or returned -/
theorem sy_call {sp : ASpY} (h : AW K tl Γ Ω fun as Ω1 => sp as Ω1 (fun _ Ω' => E.nx Γ Ω') fun cls pl Ω' => xc cls pl Γ Ω') : SWY K W (tDrop (tCallS (spY K sp) (WE W) tl)) Γ Ω E xc := fun F σ H D k e x =>
  h F σ H _ k fun as vs Ω1 H1 h1 k1 v1 => ⟨Fz Ω1 H1, Ω1, as, _, _, k1.bare.re, v1, h1, fun a v Ω' H' hp k' hv => e.nx _ _ _ _ hp (k1.back k'), fun cls pl d Ω' H' hp k' y => x _ _ _ _ _ _ _ hp (k1.back k') y⟩
theorem sy_asgCall {sp : ASpY} (h : AW K tl Γ Ω fun as Ω1 => sp as Ω1 (fun a Ω' => E.nx (Γ.set i (some a)) Ω') fun cls pl Ω' => xc cls pl Γ Ω') : SWY K W (tAsg (tCallS (spY K sp) (WE W) tl) (gName i)) Γ Ω E xc := fun F σ H D k e x =>
  h F σ H _ k fun as vs Ω1 H1 h1 k1 v1 => ⟨Fz Ω1 H1, Ω1, as, _, _, k1.bare.re, v1, h1, fun a v Ω' H' hp k' hv => e.nx _ _ _ _ hp ((k1.back k').set hv i), fun cls pl d Ω' H' hp k' y => x _ _ _ _ _ _ _ hp (k1.back k') y⟩
theorem sy_retCall {sp : ASpY} (h : AW K tl Γ Ω fun as Ω1 => sp as Ω1 E.rt fun cls pl Ω' => xc cls pl Γ Ω') : SWY K W (tRet (tCallS (spY K sp) (WE W) tl)) Γ Ω E xc := fun F σ H D k e x =>
  h F σ H _ k fun as vs Ω1 H1 h1 k1 v1 => ⟨Fz Ω1 H1, Ω1, as, _, _, k1.bare.re, v1, h1, fun a v Ω' H' hp k' hv => e.rt _ _ _ _ hp ((k1.back k').bare) hv, fun cls pl d Ω' H' hp k' y => x _ _ _ _ _ _ _ hp (k1.back k') y⟩
/-- the ends of an except suite whose name stands in slot i -/
abbrev outY (E : EndA) (i : Nat) : EndA := { nx := fun Γ' Ω' => E.nx (Γ'.set i none) Ω', rt := E.rt, bk := fun Γ' Ω' => E.bk (Γ'.set i none) Ω', ct := fun Γ' Ω' => E.ct (Γ'.set i none) Ω' }
theorem Ok.clrY {F : Hp} {σ : L2.St} {H : Hp} (k : Ok K F Ω Γ σ H) (i : Nat) : Ok K F Ω (Γ.set i none) (σ.set i none) H := ⟨k.fr, k.st, k.sl.clear i, k.tb, k.ob⟩
/-- try: body; except c as n: suite, all that is raised being caught -/
theorem s_tryY {c : Value} {ts : Addr → Value → Option Addr → TS} {Wout : WX} {tb : WX → TS}
    (h : ∀ W, SWY K W (tb W) Γ Ω E fun cls pl Γ' Ω' => PySem.W.exmOne K cls c = some true ∧ ∀ a d, (pl = none → d = none) → (∀ z, pl = some z → ∃ dd, d = some dd) → SW K (ts a cls d) (Γ'.set i (some (exA a pl d))) Ω' (outY E i)) :
    SW K (fun D σ H => tb (wAs K c i ts Wout D) D σ H) Γ Ω E := fun F σ H D k e =>
  h _ F σ H D k e fun cls pl d Γ' σ' Ω' H' ⟨hc, hs⟩ k' hd => ⟨true, hc, fun _ a na => hs a d (fun z => by subst z; exact hd) (fun z ez => by subst ez; exact ⟨hd.choose, hd.choose_spec.1⟩) F _ H' _ (k'.set (exA_ok hd) i)
    ⟨fun Γ2 σ2 Ω2 H2 h2 k2 => e.nx _ _ _ _ h2 (k2.clrY i), fun a v Ω2 H2 h2 k2 v2 => e.rt _ _ _ _ h2 k2 v2, fun Γ2 σ2 Ω2 H2 h2 k2 => e.bk _ _ _ _ h2 (k2.clrY i), fun Γ2 σ2 Ω2 H2 h2 k2 => e.ct _ _ _ _ h2 (k2.clrY i)⟩, fun z => by cases z⟩
theorem s_tryOnlyY {c : Value} {ts : Addr → Value → Option Addr → TS} {Wout : WX} {tb : WX → TS}
    (h : ∀ W, SWY K W (tb W) Γ Ω E fun cls pl Γ' Ω' => PySem.W.exmOne K cls c = some true ∧ ∀ a d, SW K (ts a cls d) Γ' Ω' E) :
    SW K (fun D σ H => tb (wOnly K c ts Wout D) D σ H) Γ Ω E := fun F σ H D k e =>
  h _ F σ H D k e fun cls pl d Γ' σ' Ω' H' ⟨hc, hs⟩ k' hd => ⟨true, hc, fun _ a na => hs a d F _ H' _ k' e, fun z => by cases z⟩
/-- isinstance(e, c), e caught -/
theorem c_isP {D C' a : Addr} {pl : Option Int} {d : Option Addr} {b : Bool} {P : Av → AH → Prop} (hC : ExcC K D) (hk : PySem.W.kitOne K (.ref D) (.ref C') = some b) (hn : pl = none → d = none) (h : P (.dat (.bool b)) Ω) : RCW K (rIsP K (.ref D) d a) [exA a pl d, .ptr C'] Ω P := fun F H xs Q k hx q => by
  cases hx with | cons h1 hx => cases hx with | cons h2 hx =>
    cases hx
    cases h2
    have e1 : ∀ v, VOk K (Fz Ω H) (exA a pl d) v → v = .ref a ∧ ∀ dd, d = some dd → ∃ fs, H dd = some (.xd fs) := fun v hv => by
      cases pl with
      | none =>
        have z := hn rfl
        subst z
        cases hv with | fn _ _ => exact ⟨rfl, fun dd e => by cases e⟩
      | some i =>
        cases d with
        | none => cases hv with | fn _ _ => exact ⟨rfl, fun dd e => by cases e⟩
        | some dd => cases hv with | fn g _ => exact ⟨rfl, fun d2 e => by cases e; exact ⟨_, Fz_le _ _ (g (dd, plcD i) List.mem_cons_self)⟩⟩
    obtain ⟨rfl, hd⟩ := e1 _ h1
    exact ⟨D, .ref C', .ref C', b, rfl, hC, rfl, fun u r => r, hk, hd, q _ _ _ _ h k (.dat (.bl b))⟩
/-- e.place -/
theorem e_xf {D a dd : Addr} {z : Int} {P : Av → AH → Prop} (h : EW K te Γ Ω fun b Ω1 => b = exA a (some z) (some dd) ∧ P (.dat (.int z)) Ω1) : EW K (tXf a (.ref D) (some dd) D Exf.nPlc te) Γ Ω P := fun F σ H Q k q =>
  h F σ H _ k fun b v Ω1 H1 ⟨eb, hp⟩ k1 v1 => by
    subst eb
    cases v1 with | fn g _ =>
      exact ⟨rfl, rfl, dd, _, .int z, rfl, Fz_le _ _ (g (dd, plcD z) List.mem_cons_self), by simp [List.lookup], q _ _ _ _ hp k1 (.dat (.int z))⟩
theorem e_clsY {P : Av → AH → Prop} (h : P (.ptr C) Ω) : EW K (tC (.ref C)) Γ Ω P := fun F σ H Q k q => q _ _ Ω H h k (.ptr C)
end
section
variable {P : Program} {w : World} {K : PySem.W.Frag} [Tb K] {mg : Str → Option Value} {base : Heap}
theorem spY_len {sp : ASpY} {n : Nat} (len : ∀ as Ω P PX, sp as Ω P PX → as.length = n) : ∀ vs H Q E, spY K sp vs H Q E → vs.length = n := fun vs H Q E ⟨F, Ω, as, P, PX, k, va, h, _⟩ => va.length.trans (len as Ω P PX h)
/-- a def that may raise keeps its promise -/
theorem fnY_ok {x qual : Str} {st : Stmt} {f : Addr} {fd : FuncData} {N ps : List Str} {k : Nat} {sp : ASpY} (F : L2.Fun K x qual st f fd) (S : FnScope N ps (defScope st)) (len : ∀ as Ω P PX, sp as Ω P PX → as.length = ps.length)
    (hbody : ∀ (cdv : Value) (A : Around) (outer : List Env) (s : Shared) (H : Hp) (E : XK), Room k (A.deeper (envOfC qual (defScope st) s.heap.objs.size f cdv)) →
      Takes (cxOf (L2.CX P w) P w K mg base N qual (defScope st) f cdv A outer s H E) (fun cls d _ H' => E cls d H') →
      ∃ t : TS, PSs (cxOf (L2.CX P w) P w K mg base N qual (defScope st) f cdv A outer s H E) (defBody st) t ∧
      ∀ as Ω P PX, sp as Ω P PX → SWY K (fun cls d _ H' => E cls d H') t (as.map some ++ List.replicate (N.length - as.length) none) Ω { nx := fun _ Ω' => P (.dat .none) Ω', rt := P } fun cls pl _ Ω' => PX cls pl Ω') :
    FnOk P w K mg base (L2.CX P w) (k + 1) f fd ps (spY K sp) := by
  refine F.okX S (spY_len len) fun cdv A outer s H vs Q E hr h => ?_
  obtain ⟨t, ht, hs⟩ := hbody cdv A outer s H E hr (takes_of rfl rfl rfl rfl)
  obtain ⟨F0, Ω, as, P, PX, k0, va, h, hq, hx⟩ := h
  refine ⟨t, ht, hs as Ω P PX h F0 (L2.start N vs) H _ ⟨k0.fr, k0.st, ?_, k0.tb, k0.ob⟩ ⟨fun Γ' σ' Ω' H' hp k' => hq _ _ _ _ hp k'.bare (.dat .non), fun a v Ω' H' hp k' hv => hq _ _ _ _ hp k' hv, fun _ _ _ _ z => z.elim, fun _ _ _ _ z => z.elim⟩
    fun cls pl d Γ' σ' Ω' H' hp k' y => hx _ _ _ _ _ hp k'.bare y⟩
  unfold L2.start
  rw [va.length]
  exact Slots.start (N := N) va _
/-- .. called where it raises nothing -/
theorem fnY_noX {k : Nat} {f : Addr} {fd : FuncData} {ps : List Str} {sp : ASpY} (G : FnOk P w K mg base (L2.CX P w) k f fd ps (spY K sp)) : FnOk P w K mg base CX0 k f fd ps (spA K (noY sp)) := by
  have cv : ∀ vs H Q E, spA K (noY sp) vs H Q E → spY K sp vs H Q E0 := fun vs H Q E ⟨F, Ω, as, P, k0, va, h, hq⟩ => ⟨F, Ω, as, P, fun _ _ _ => False, k0, va, h, hq, fun _ _ _ _ _ z => z.elim⟩
  constructor
  · exact fun vs H Q E h => G.len vs H Q E0 (cv vs H Q E h)
  · intro A outer s H args us vs Q E hr e0 b r h
    refine codeAny_mono (G.run A outer s H args us vs Q E0 hr e0 b r (cv vs H Q E h)) fun r s' hq => ?_
    cases r with
    | ok fl => cases fl <;> exact hq
    | error e =>
      obtain ⟨_, _, _, _, _, _, _, _, _, _, _, _, z⟩ := hq
      exact z.elim
end
/-! ### derivations -/
/-- a class of the program under ValueError without its own __init__ -/
structure ExcDY (K : PySem.W.Frag) (mg : Str → Option Value) (x : Str) (C : Addr) : Prop where
  q : PySem.W.excIn K C PySem.HandSPX.veTail "ValueError.__new__" = true
  g : mg x = some (.ref C)
  kp : PySem.W.keepIn K (.ref C) = true
  s : PySem.W.subIn K (.ref C) (.type "BaseException") = some true
  t : PySem.W.typeIn K (.ref C) = some (.type "type")
section
variable {X : Cx} {K : PySem.W.Frag} {mg : Str → Option Value} {W : WX} {x : Str} {C : Addr}
theorem ps_raiseY {m : Str} {j : Nat} {p p2 pos pos' : Pos} (R : ExcDY K mg x C) (hK : X.K = K) (hm : X.mg = mg) (hc : X.calm = true) (tk : Takes X W) (hg : Gl X x) (hdb : (x == ("__debug__" : Str)) = false := by decide) :
    PS X (.Raise (some (.Call (.Name x p) [.Constant (.str m) j p2] [] pos)) none pos') (tRaiseY C W) := by
  subst hK hm
  exact ps_raise hc tk (pmk_own PySem.F.excBase_ValueError R.q R.g R.kp (raises_own R.s R.t) hg hdb)
theorem ps_raiseY1 {e : Expr} {te : TE} {p pos pos' : Pos} (R : ExcDY K mg x C) (hK : X.K = K) (hm : X.mg = mg) (hc : X.calm = true) (tk : Takes X W) (hg : Gl X x) (he : PE X e te)
    (hs : starEach [e] X.env = (false, eval e X.env) :: starEach [] X.env := by rfl) (hdb : (x == ("__debug__" : Str)) = false := by decide) :
    PS X (.Raise (some (.Call (.Name x p) [e] [] pos)) none pos') (tRaiseY1 C te W) := by
  subst hK hm
  exact ps_raise hc tk (SkE.pmk_own1 PySem.F.excBase_ValueError R.q R.g R.kp (raises_own R.s R.t) hg he hs hdb)
theorem ps_raiseP {e : Expr} {ta : TA} {p pos pos' : Pos} {P : Program} {k : Nat} (R : Exf.Plc P K mg x C) (hP : X.prog = P) (hK : X.K = K) (hm : X.mg = mg) (hc : X.calm = true) (hr : Room (k + 1) X.A) (tk : Takes X W) (hg : Gl X x) (he : PA X [e] ta)
    (hs : starEach [e] X.env = (false, eval e X.env) :: starEach [] X.env := by rfl) (hdb : (x == ("__debug__" : Str)) = false := by decide) :
    PS X (.Raise (some (.Call (.Name x p) [e] [] pos)) none pos') (tRaiseP C ta W) := by
  subst hP hK hm
  exact ps_raise hc tk (pmk_plc R hr he hg hdb hs)
end
end Dat

set_option Elab.async false
set_option linter.all false
set_option maxRecDepth 100000
set_option maxHeartbeats 1000000
/-! dicts of ints and texts that change; instances -/
namespace Dat
open PySem PySem.Spec PyProof.Rows L2
section
variable {κ : Type} [DecidableEq κ]
def valA (kvs : List (κ × Av)) (k : κ) : Option Av := (kvs.find? fun kv => decide (kv.1 = k)).map (·.2)
def putA (kvs : List (κ × Av)) (k : κ) (a : Av) : List (κ × Av) :=
  if (kvs.any fun kv => decide (kv.1 = k)) = true then kvs.map (fun kv => if kv.1 = k then (kv.1, a) else kv) else kvs ++ [(k, a)]
variable {K : PySem.W.Frag} {F : Hp}
theorem PrAll.length : ∀ {as : List (κ × Av)} {vs : List (κ × V)}, PrAll K F as vs → vs.length = as.length
  | _, _, .nil => rfl
  | _, _, .cons _ g => by rw [List.length_cons, List.length_cons, PrAll.length g]
theorem PrAll.keys : ∀ {as : List (κ × Av)} {vs : List (κ × V)}, PrAll K F as vs → vs.map (·.1) = as.map (·.1)
  | _, _, .nil => rfl
  | _, _, .cons _ g => by rw [List.map_cons, List.map_cons, PrAll.keys g]
theorem PrAll.any {k : κ} : ∀ {as : List (κ × Av)} {vs : List (κ × V)}, PrAll K F as vs → (vs.any fun kv => decide (kv.1 = k)) = as.any fun kv => decide (kv.1 = k)
  | _, _, .nil => rfl
  | _, _, .cons _ g => by rw [List.any_cons, List.any_cons, PrAll.any g]
theorem PrAll.app : ∀ {as bs : List (κ × Av)} {vs us : List (κ × V)}, PrAll K F as vs → PrAll K F bs us → PrAll K F (as ++ bs) (vs ++ us)
  | _, _, _, _, .nil, q => q
  | _, _, _, _, .cons h g, q => .cons h (PrAll.app g q)
theorem PrAll.upd {k : κ} {a : Av} {v : V} (hv : VOk K F a v) : ∀ {as : List (κ × Av)} {vs : List (κ × V)}, PrAll K F as vs → PrAll K F (as.map fun kv => if kv.1 = k then (kv.1, a) else kv) (vs.map fun kv => if kv.1 = k then (kv.1, v) else kv)
  | _, _, .nil => .nil
  | (k', a') :: _, (_, v') :: _, .cons h g => by
    rw [List.map_cons, List.map_cons]
    by_cases e : k' = k
    · rw [if_pos e, if_pos e]
      exact .cons hv (PrAll.upd hv g)
    · rw [if_neg e, if_neg e]
      exact .cons h (PrAll.upd hv g)
theorem PrAll.put {k : κ} {a : Av} {v : V} (hv : VOk K F a v) {as : List (κ × Av)} {vs : List (κ × V)} (g : PrAll K F as vs) : PrAll K F (putA as k a) (putK vs k v) := by
  unfold putA putK
  rw [g.any]
  split
  · exact g.upd hv
  · exact g.app (.cons hv .nil)
theorem PrAll.val {k : κ} : ∀ {as : List (κ × Av)} {vs : List (κ × V)}, PrAll K F as vs → (valA as k = none ∧ valV vs k = none) ∨ ∃ a v, valA as k = some a ∧ valV vs k = some v ∧ VOk K F a v
  | _, _, .nil => .inl ⟨rfl, rfl⟩
  | (k', a) :: _, (_, v) :: _, .cons h g => by
    by_cases e : k' = k
    · exact .inr ⟨a, v, by simp [valA, List.find?_cons, e], valV_pos e, h⟩
    · rcases PrAll.val g with ⟨h1, h2⟩ | ⟨b, x, h1, h2, h3⟩
      · refine .inl ⟨?_, by rw [valV_neg e]; exact h2⟩
        rw [← h1]
        simp [valA, List.find?_cons, e]
      · refine .inr ⟨b, x, ?_, by rw [valV_neg e]; exact h2, h3⟩
        rw [← h1]
        simp [valA, List.find?_cons, e]
end
/-- keys as data -/
inductive IsKey : Av → Key → Prop
  | int (i : Int) : IsKey (.dat (.int i)) (.inl i)
  | str (x : Str) : IsKey (.dat (.str x)) (.inr x)
def keyD : Key → PyData
  | .inl i => .int i
  | .inr x => .str x
section
variable {K : PySem.W.Frag} [Tb K] {Γ : List (Option Av)} {Ω : AH} {E : EndA} {xc : XAY} {W : WX} {P : Av → AH → Prop} {te td ty tv tx : TE} {t u : TS} {tl : TA} {i : Nat}
theorem IsKey.val {F : Hp} {a : Av} {k : Key} {v : V} (h : IsKey a k) (hv : VOk K F a v) : v = kV k := by
  cases h <;> (cases hv with | dat hv => cases hv; rfl)
theorem dk_of' {F : Hp} {H : Hp} {Γ : List (Option Av)} {σ : L2.St} (k : Ok K F Ω Γ σ H) {p : Addr} {kvs : List (Key × Av)} (e : Ω.o p = some (.dk kvs)) : ∃ vs, H p = some (.dK vs) ∧ PrAll K (Fz Ω H) kvs vs := by
  obtain ⟨x, h1, h2⟩ := k.ob p _ e
  cases h2 with | dk h => exact ⟨_, h1, h⟩
theorem in_of' {F : Hp} {H : Hp} {Γ : List (Option Av)} {σ : L2.St} (k : Ok K F Ω Γ σ H) {p C dx : Addr} {fs : List (Str × Av)} (e : Ω.o p = some (.ins C dx fs)) : ∃ vs, H p = some (.ins C dx vs) ∧ PrAll K (Fz Ω H) fs vs := by
  obtain ⟨x, h1, h2⟩ := k.ob p _ e
  cases h2 with | ins h => exact ⟨_, h1, h⟩
/-! ### dicts -/
theorem e_dnewO (h : ∀ p, Ω.Off p → P (.ptr p) (puto Ω p (.dk []))) : EW K tDNewK Γ Ω P := fun F σ H Q k q p np =>
  q _ _ _ _ (h p (k.off np)) (k.newo np (.dk .nil)) (.ptr p)
/-- the pairs of a display -/
def PWs (K : PySem.W.Frag) [Tb K] : List (TE × TE) → List (Option Av) → AH → (List (Key × Av) → AH → Prop) → Prop
  | [], _, Ω, P => P [] Ω
  | (tk, tv) :: r, Γ, Ω, P => EW K tk Γ Ω fun a Ω1 => ∃ k, IsKey a k ∧ EW K tv Γ Ω1 fun b Ω2 => PWs K r Γ Ω2 fun kvs Ω3 => P ((k, b) :: kvs) Ω3
def mergeA (kvs more : List (Key × Av)) : List (Key × Av) := more.foldl (fun acc kv => putA acc kv.1 kv.2) kvs
theorem PrAll.merge {F : Hp} : ∀ {more : List (Key × Av)} {ms : List (Key × V)} {kvs : List (Key × Av)} {vs : List (Key × V)}, PrAll K F more ms → PrAll K F kvs vs → PrAll K F (mergeA kvs more) (mergeK vs ms)
  | [], _, kvs, vs, hm, g => by
    cases hm
    exact g
  | (k, a) :: r, _, kvs, vs, hm, g => by
    cases hm with
    | cons h hr =>
      have z := PrAll.merge (more := r) hr (g.put (k := k) h)
      exact z
theorem pws_go {σ : L2.St} : ∀ {trs : List (TE × TE)} {Ω : AH} {P : List (Key × Av) → AH → Prop} {F : Hp} {H : Hp} {Q : List (V × V) → Hp → Prop}, PWs K trs Γ Ω P → Ok K F Ω Γ σ H →
    (∀ kvs vs Ω' H', P kvs Ω' → Ok K F Ω' Γ σ H' → PrAll K (Fz Ω' H') kvs vs → Q (vs.map fun kv => (kV kv.1, kv.2)) H') → tPairs trs σ H Q
  | [], Ω, P, F, H, Q, h, k, q => q [] [] Ω H h k .nil
  | (tk, tv) :: r, Ω, P, F, H, Q, h, k, q =>
    h F σ H _ k fun a v Ω1 H1 ⟨ky, hk, h1⟩ k1 v1 => h1 (Fz Ω1 H1) σ H1 _ k1.re fun b y Ω2 H2 h2 k2 v2 => by
      have ev := hk.val v1
      subst ev
      refine pws_go (Ω := Ω2) (F := Fz Ω2 H2) h2 k2.re fun kvs vs Ω3 H3 h3 k3 v3 => ?_
      exact q ((ky, b) :: kvs) ((ky, y) :: vs) Ω3 H3 h3 ((k3.anchor k2.fr).anchor k1.fr) (.cons (v2.same k3.fr) v3)
theorem e_dispO {trs : List (TE × TE)} (h : ∀ p, Ω.Off p → PWs K trs Γ (puto Ω p (.dk [])) fun kvs Ω' => Ω'.o p = some (.dk []) ∧ kvs.length ≤ 15 ∧ P (.ptr p) (puto Ω' p (.dk (mergeA [] kvs)))) : EW K (tDisp trs) Γ Ω P := fun F σ H Q k q p np => by
  refine pws_go (h p (k.off np)) (k.newo np (.dk .nil)) fun kvs vs Ω' H' ⟨ep, hl, hp⟩ k' g => ?_
  obtain ⟨ws, e1, g1⟩ := dk_of' k' ep
  cases g1
  refine ⟨e1, vs, rfl, by rw [g.length]; exact hl, q _ _ _ _ hp (k'.puto ep (.dk (PrAll.merge g .nil))) (.ptr p)⟩
/-- y in d, y not in d -/
theorem e_din (h : EW K ty Γ Ω fun a Ω1 => ∃ k, IsKey a k ∧ EW K td Γ Ω1 fun b Ω2 => ∃ p kvs, b = .ptr p ∧ Ω2.o p = some (.dk kvs) ∧ P (.dat (.bool (valA kvs k).isSome)) Ω2) : EW K (tDIn ty td) Γ Ω P := fun F σ H Q k q =>
  h F σ H _ k fun a v Ω1 H1 ⟨ky, hk, h1⟩ k1 v1 => h1 (Fz Ω1 H1) σ H1 _ k1.re fun b x Ω2 H2 ⟨p, kvs, eb, ep, hp⟩ k2 v2 => by
    have ev := hk.val v1
    subst ev eb
    cases v2
    obtain ⟨ws, e1, g1⟩ := dk_of' k2 ep
    refine ⟨p, _, rfl, DGet.k (k := ky) e1, ?_⟩
    have es : (valV ws ky).isSome = (valA kvs ky).isSome := by
      rcases g1.val (k := ky) with ⟨h1, h2⟩ | ⟨_, _, h1, h2, _⟩ <;> rw [h1, h2] <;> rfl
    rw [es]
    exact q _ _ Ω2 H2 hp (k2.anchor k1.fr) (.dat (.bl _))
theorem e_dnin (h : EW K ty Γ Ω fun a Ω1 => ∃ k, IsKey a k ∧ EW K td Γ Ω1 fun b Ω2 => ∃ p kvs, b = .ptr p ∧ Ω2.o p = some (.dk kvs) ∧ P (.dat (.bool (!(valA kvs k).isSome))) Ω2) : EW K (tDNotIn ty td) Γ Ω P := fun F σ H Q k q =>
  h F σ H _ k fun a v Ω1 H1 ⟨ky, hk, h1⟩ k1 v1 => h1 (Fz Ω1 H1) σ H1 _ k1.re fun b x Ω2 H2 ⟨p, kvs, eb, ep, hp⟩ k2 v2 => by
    have ev := hk.val v1
    subst ev eb
    cases v2
    obtain ⟨ws, e1, g1⟩ := dk_of' k2 ep
    refine ⟨p, _, rfl, DGet.k (k := ky) e1, ?_⟩
    have es : (valV ws ky).isSome = (valA kvs ky).isSome := by
      rcases g1.val (k := ky) with ⟨h1, h2⟩ | ⟨_, _, h1, h2, _⟩ <;> rw [h1, h2] <;> rfl
    rw [es]
    exact q _ _ Ω2 H2 hp (k2.anchor k1.fr) (.dat (.bl _))
/-- d[y] -/
theorem e_dgetO (h : EW K td Γ Ω fun b Ω1 => EW K ty Γ Ω1 fun a Ω2 => ∃ p kvs k c, b = .ptr p ∧ Ω2.o p = some (.dk kvs) ∧ IsKey a k ∧ valA kvs k = some c ∧ P c Ω2) : EW K (tDGet td ty) Γ Ω P := fun F σ H Q k q =>
  h F σ H _ k fun b x Ω1 H1 h1 k1 v1 => h1 (Fz Ω1 H1) σ H1 _ k1.re fun a v Ω2 H2 ⟨p, kvs, ky, c, eb, ep, hk, ec, hp⟩ k2 v2 => by
    have ev := hk.val v2
    subst ev eb
    cases v1
    obtain ⟨ws, e1, g1⟩ := dk_of' k2 ep
    rcases g1.val (k := ky) with ⟨h1, h2⟩ | ⟨c', y, h1, h2, h3⟩
    · rw [ec] at h1
      cases h1
    · rw [ec] at h1
      cases h1
      refine ⟨p, y, rfl, ?_, q _ _ Ω2 H2 hp (k2.anchor k1.fr) h3⟩
      rw [← h2]
      exact DGet.k (k := ky) e1
/-- d.get(y) -/
theorem e_dget1O (h : EW K td Γ Ω fun b Ω1 => ∃ p kvs, b = .ptr p ∧ Ω1.o p = some (.dk kvs) ∧ EW K ty Γ Ω1 fun a Ω2 => ∃ k, Ω2.o p = some (.dk kvs) ∧ IsKey a k ∧ P ((valA kvs k).getD (.dat .none)) Ω2) : EW K (tDGet1 td ty) Γ Ω P := fun F σ H Q k q =>
  h F σ H _ k fun b x Ω1 H1 ⟨p, kvs, eb, ep, h1⟩ k1 v1 => by
    subst eb
    cases v1
    obtain ⟨ws, e1, g1⟩ := dk_of' k1 ep
    refine ⟨p, rfl, .inl ⟨ws, .inl e1⟩, h1 (Fz Ω1 H1) σ H1 _ k1.re fun a v Ω2 H2 ⟨ky, ep2, hk, hp⟩ k2 v2 => ?_⟩
    have ev := hk.val v2
    subst ev
    obtain ⟨ws2, e2, g2⟩ := dk_of' k2 ep2
    refine ⟨valV ws2 ky, DGet.k (k := ky) e2, ?_⟩
    rcases g2.val (k := ky) with ⟨h1, h2⟩ | ⟨c', y, h1, h2, h3⟩
    · rw [h2]
      rw [h1] at hp
      exact q _ _ Ω2 H2 hp (k2.anchor k1.fr) (.dat .non)
    · rw [h2]
      rw [h1] at hp
      exact q _ _ Ω2 H2 hp (k2.anchor k1.fr) h3
/-- d[y] = v -/
theorem s_dput (h : EW K tv Γ Ω fun c Ω1 => EW K td Γ Ω1 fun b Ω2 => EW K ty Γ Ω2 fun a Ω3 => ∃ p kvs k, b = .ptr p ∧ Ω3.o p = some (.dk kvs) ∧ IsKey a k ∧ kvs.length < 100000 ∧ E.nx Γ (puto Ω3 p (.dk (putA kvs k c)))) : SW K (sDPut td ty tv) Γ Ω E := fun F σ H D k e =>
  h F σ H _ k fun c y Ω1 H1 h1 k1 v1 => h1 (Fz Ω1 H1) σ H1 _ k1.re fun b x Ω2 H2 h2 k2 v2 => h2 (Fz Ω2 H2) σ H2 _ k2.re fun a v Ω3 H3 ⟨p, kvs, ky, eb, ep, hk, hl, hn⟩ k3 v3 => by
    have ev := hk.val v3
    subst ev eb
    cases v2
    obtain ⟨ws, e1, g1⟩ := dk_of' k3 ep
    refine ⟨p, _, rfl, DPut.k (k := ky) e1 (by rw [g1.length]; exact sz_lt hl), ?_⟩
    exact e.nx _ _ _ _ hn (((k3.anchor k2.fr).anchor k1.fr).puto ep (.dk (g1.put ((v1.same k2.fr).same k3.fr))))
theorem keys_va {F : Hp} : ∀ {kvs : List (Key × Av)} {ws : List (Key × V)}, PrAll K F kvs ws → VAll K F (kvs.map fun kv => .dat (keyD kv.1)) (ws.map fun kv => kV kv.1)
  | [], _, h => by
    cases h
    exact .nil
  | (k, a) :: r, _, h => by
    cases h with
    | cons h hr =>
      refine .cons ?_ (keys_va hr)
      cases k with
      | inl i => exact .dat (.int i)
      | inr x => exact .dat (.str x)
/-- list(d) -/
theorem c_listDk {p : Addr} {kvs : List (Key × Av)} (e : Ω.o p = some (.dk kvs)) (h : ∀ q, Ω.Off q → P (.ptr q) (put Ω q (kvs.map fun kv => .dat (keyD kv.1)))) : RCW K rListD [.ptr p] Ω P := fun F H xs Q k hx q => by
  cases hx with | cons h1 hx =>
    cases hx
    cases h1
    obtain ⟨ws, e1, g1⟩ := dk_of' k e
    refine ⟨p, ws, rfl, e1, fun l nl => ?_⟩
    have va := keys_va g1
    exact q _ _ _ _ (h l (k.off nl)) (k.new nl va) (.ptr l)
/-! ### instances -/
def putFA (f : Str) (a : Av) : List (Str × Av) → List (Str × Av)
  | [] => [(f, a)]
  | (g, x) :: r => if g = f then (g, a) :: r else (g, x) :: putFA f a r
theorem PrAll.putF {F : Hp} {f : Str} {a : Av} {v : V} (hv : VOk K F a v) : ∀ {fs : List (Str × Av)} {vs : List (Str × V)}, PrAll K F fs vs → PrAll K F (putFA f a fs) (putF f v vs)
  | _, _, .nil => .cons hv .nil
  | (g, b) :: _, (_, y) :: _, .cons h r => by
    unfold putFA L2.putF
    by_cases e : g = f
    · rw [if_pos e, if_pos e]
      exact .cons hv r
    · rw [if_neg e, if_neg e]
      exact .cons h (PrAll.putF hv r)
theorem PrAll.look {F : Hp} {f : Str} : ∀ {fs : List (Str × Av)} {vs : List (Str × V)}, PrAll K F fs vs → (fs.lookup f = none ∧ vs.lookup f = none) ∨ ∃ a v, fs.lookup f = some a ∧ vs.lookup f = some v ∧ VOk K F a v
  | _, _, .nil => .inl ⟨rfl, rfl⟩
  | (g, b) :: _, (_, y) :: _, .cons h r => by
    simp only [List.lookup]
    by_cases e : f = g
    · subst e
      simp only [beq_self_eq_true]
      exact .inr ⟨b, y, rfl, rfl, h⟩
    · have e0 : (f == g) = false := by simpa using e
      simp only [e0]
      exact PrAll.look r
/-- o.f -/
theorem e_fld {f : Str} (h : EW K te Γ Ω fun a Ω1 => ∃ p C dx fs b, a = .ptr p ∧ Ω1.o p = some (.ins C dx fs) ∧ Cls K C ∧ NoAttr K C f ∧ fs.lookup f = some b ∧ P b Ω1) : EW K (tFld K te f) Γ Ω P := fun F σ H Q k q =>
  h F σ H _ k fun a v Ω1 H1 ⟨p, C, dx, fs, b, ea, ep, c, n, eb, hp⟩ k1 v1 => by
    subst ea
    cases v1
    obtain ⟨ws, e1, g1⟩ := in_of' k1 ep
    rcases g1.look (f := f) with ⟨h1, h2⟩ | ⟨b', y, h1, h2, h3⟩
    · rw [eb] at h1
      cases h1
    · rw [eb] at h1
      cases h1
      exact ⟨p, C, dx, ws, y, rfl, e1, c, n, h2, q _ _ _ _ hp k1 h3⟩
/-- o.f = e -/
theorem s_fld {f : Str} (h : EW K tv Γ Ω fun b Ω1 => EW K te Γ Ω1 fun a Ω2 => ∃ p C dx fs, a = .ptr p ∧ Ω2.o p = some (.ins C dx fs) ∧ Cls K C ∧ NoAttr K C f ∧ fs.length < 1000 ∧ E.nx Γ (puto Ω2 p (.ins C dx (putFA f b fs)))) : SW K (sFld K te tv f) Γ Ω E := fun F σ H D k e =>
  h F σ H _ k fun b y Ω1 H1 h1 k1 v1 => h1 (Fz Ω1 H1) σ H1 _ k1.re fun a v Ω2 H2 ⟨p, C, dx, fs, ea, ep, c, n, hl, hn⟩ k2 v2 => by
    subst ea
    cases v2
    obtain ⟨ws, e1, g1⟩ := in_of' k2 ep
    exact ⟨p, C, dx, ws, rfl, e1, c, n, by rw [g1.length]; exact hl, e.nx _ _ _ _ hn ((k2.anchor k1.fr).puto ep (.ins (g1.putF (v1.same k2.fr))))⟩
/-- o.f += e -/
theorem s_fldAdd {f : Str} (h : EW K te Γ Ω fun a Ω1 => ∃ p C dx fs z, a = .ptr p ∧ Ω1.o p = some (.ins C dx fs) ∧ Cls K C ∧ NoAttr K C f ∧ fs.lookup f = some (.dat (.int z)) ∧
    EW K tv Γ Ω1 fun b Ω2 => ∃ z2 dx' fs', b = .dat (.int z2) ∧ Ω2.o p = some (.ins C dx' fs') ∧ fs'.length < 1000 ∧ E.nx Γ (puto Ω2 p (.ins C dx' (putFA f (.dat (.int (z + z2))) fs')))) : SW K (sFldAug K te tv rAdd f) Γ Ω E := fun F σ H D k e =>
  h F σ H _ k fun a v Ω1 H1 ⟨p, C, dx, fs, z, ea, ep, c, n, eb, h1⟩ k1 v1 => by
    subst ea
    cases v1
    obtain ⟨ws, e1, g1⟩ := in_of' k1 ep
    rcases g1.look (f := f) with ⟨h2, h3⟩ | ⟨b', y, h2, h3, h4⟩
    · rw [eb] at h2
      cases h2
    · rw [eb] at h2
      cases h2
      cases h4 with | dat h4 =>
        cases h4
        refine ⟨p, C, dx, ws, .int z, rfl, e1, c, n, h3, h1 (Fz Ω1 H1) σ H1 _ k1.re fun b y Ω2 H2 ⟨z2, dx', fs', eb2, ep2, hl, hn⟩ k2 v2 => ?_⟩
        subst eb2
        cases v2 with | dat v2 =>
          cases v2
          obtain ⟨ws2, e2, g2⟩ := in_of' k2 ep2
          exact ⟨z, z2, rfl, rfl, dx', ws2, e2, by rw [g2.length]; exact hl, e.nx _ _ _ _ hn ((k2.anchor k1.fr).puto ep2 (.ins (g2.putF (.dat (.int (z + z2))))))⟩
/-- o.m(..): a method that raises nothing -/
theorem e_meth {C : Addr} {m : Str} {sp : ASp} {X : XK} {dvs : List V} {das : List Av} (hd : ∀ F, VAll K F das dvs) (h : EW K te Γ Ω fun a Ω1 => ∃ p dx fs, a = .ptr p ∧ Ω1.o p = some (.ins C dx fs) ∧ fs.lookup m = none ∧ AW K tl Γ Ω1 fun as Ω2 => sp (.ptr p :: (as ++ das)) Ω2 P) : EW K (tMeth C m (spA K sp) dvs X te tl) Γ Ω P := fun F σ H Q k q =>
  h F σ H _ k fun a v Ω1 H1 ⟨p, dx, fs, ea, ep, em, h1⟩ k1 v1 => by
    subst ea
    cases v1
    obtain ⟨ws, e1, g1⟩ := in_of' k1 ep
    refine ⟨p, dx, ws, rfl, e1, ?_, h1 (Fz Ω1 H1) σ H1 _ k1.re fun as vs Ω2 H2 h2 k2 v2 => ?_⟩
    · rcases g1.look (f := m) with ⟨_, h3⟩ | ⟨b', y, h2, h3, h4⟩
      · exact h3
      · rw [em] at h2
        cases h2
    · exact ⟨Fz Ω2 H2, Ω2, _, P, k2.bare.re, .cons (.ptr p) (v2.app (hd _)), h2, fun a v Ω' H' hp k' hv => q a v Ω' H' hp ((k2.anchor k1.fr).back k') hv⟩
/-- C(..): __init__ raises nothing -/
theorem e_make {C : Addr} {sp : ASp} {X : XK} {dvs : List V} {das : List Av} (hd : ∀ F, VAll K F das dvs) (h : AW K tl Γ Ω fun as Ω1 => ∀ p dx, Ω1.Off p → sp (.ptr p :: (as ++ das)) (puto Ω1 p (.ins C dx [])) fun a Ω' => a = .dat .none ∧ P (.ptr p) Ω') : EW K (tMake C (spA K sp) dvs X tl) Γ Ω P := fun F σ H Q k q =>
  h F σ H _ k fun as vs Ω1 H1 h1 k1 v1 x dx nx ndx ne => by
    have kd := k1.same (same_new (o := .own x) ndx)
    have nx' : upd H1 dx (.own x) x = none := by
      rw [upd_ne (Ne.symm ne)]
      exact nx
    have k2 := kd.newo (u := .ins C dx []) nx' (.ins .nil)
    have sm : Same (Fz Ω1 H1) (Fz (puto Ω1 x (.ins C dx [])) (upd (upd H1 dx (.own x)) x (.ins C dx []))) := by
      rw [Fz_newo nx']
      exact Fz_same (same_new ndx)
    exact ⟨Fz (puto Ω1 x (.ins C dx [])) (upd (upd H1 dx (.own x)) x (.ins C dx [])), _, _, _, k2.bare.re, .cons (.ptr x) ((v1.same sm).app (hd _)), h1 x dx (k1.off nx), fun a v Ω' H' ⟨ea, hp⟩ k' hv => by
      subst ea
      cases hv with | dat hv =>
        cases hv
        exact ⟨rfl, q _ _ _ _ hp (k2.back k') (.ptr x)⟩⟩
end
end Dat

set_option Elab.async false
set_option linter.all false
set_option maxRecDepth 100000
set_option maxHeartbeats 1000000
/-! dicts whose keys are tuples, nested: rules of the text, rules over data -/
namespace Dat
open PySem PySem.Spec PyProof.Rows L2 Dkd
def KeyAt (K : PySem.W.Frag) (H : Hp) (k : PyData) (b : Addr) : Prop := (keyd k = true ∧ k.depth ≤ 8) ∧ Dq K H (.ref b) k
def DdAt (K : PySem.W.Frag) (w : World) (H : Hp) (a : Addr) (vs : Ent) : Prop := (∃ ep, H a = some (.ext (ddP w a ep vs))) ∧ ∀ p ∈ vs, KeyAt K H p.1 p.2.1
theorem KeyAt.is {X : Cx} {pins : List (Addr × Obj)} {σ : L2.St} {H : Hp} {s : Shared} {k : PyData} {b : Addr} (I : Inv X pins σ H s) (h : KeyAt X.K H k b) : IsD s.heap k b :=
  let ⟨as, r, _⟩ := Dq.reads I k (.ref b) (.ref b) h.2 rfl
  ⟨h.1.1, h.1.2, as, r⟩
theorem dd_empty {P : Program} {w w' : World} {H : Hp} (h : Heap) (hb : sysModules < h.objs.size) : ObjOk P w' H (h.push { cls := .type "dict", data := .dict #[] }) h.objs.size (.ext (ddP w h.objs.size 0 [])) :=
  dd_ext ⟨Nat.zero_le _, beq_eq_false_iff_ne.mpr (Ne.symm (Nat.ne_of_lt hb)), [], .nil, _, #[], Heap.get?_push_size _ rfl, ⟨rfl, rfl, rfl⟩, rfl, rfl, List.nodup_nil⟩
/-- {} -/
def tDNewE (w : World) : TE := fun _ H Q => ∀ p, H p = none → Q (.ref p) (upd H p (.ext (ddP w p 0 [])))
/-- y in d, y not in d, d[y], d[y] = v -/
def tDInE (K : PySem.W.Frag) (w : World) (ty td : TE) : TE := fun σ H Q => ty σ H fun y H1 => td σ H1 fun x H2 => ∃ (a b : Addr) (vs : Ent) (k : PyData), x = .ref a ∧ y = .ref b ∧ DdAt K w H2 a vs ∧ KeyAt K H2 k b ∧ Q (.bl (valE vs k).isSome) H2
def tDNotInE (K : PySem.W.Frag) (w : World) (ty td : TE) : TE := fun σ H Q => ty σ H fun y H1 => td σ H1 fun x H2 => ∃ (a b : Addr) (vs : Ent) (k : PyData), x = .ref a ∧ y = .ref b ∧ DdAt K w H2 a vs ∧ KeyAt K H2 k b ∧ Q (.bl (!(valE vs k).isSome)) H2
def tDGetE (K : PySem.W.Frag) (w : World) (td ty : TE) : TE := fun σ H Q => td σ H fun x H1 => ty σ H1 fun y H2 => ∃ (a b : Addr) (vs : Ent) (k : PyData) (v : V), x = .ref a ∧ y = .ref b ∧ DdAt K w H2 a vs ∧ KeyAt K H2 k b ∧ valE vs k = some v ∧ Q v H2
def sDPutE (K : PySem.W.Frag) (w : World) (td ty tv : TE) : TS := fun D σ H => tv σ H fun v H1 => td σ H1 fun x H2 => ty σ H2 fun y H3 => ∃ (a b : Addr) (vs : Ent) (k : PyData), x = .ref a ∧ y = .ref b ∧ DdAt K w H3 a vs ∧ KeyAt K H3 k b ∧ vs.length < sizeLine ∧ ∀ ep, D.nx σ (upd H3 a (.ext (ddP w a ep (putE vs k b v))))
section
variable {X : Cx} {o i e value : Expr} {pos pos' tpos : Pos} {td ty tv : TE}
theorem pe_dnewE : PE X (.Dict [] [] pos) (tDNewE X.w) := ⟨fun pins s σ H Q I h =>
  wpAny_Dict_empty ⟨.ref s.heap.objs.size, _, I.laid (a := s.heap.objs.size) (o := .ext (ddP X.w s.heap.objs.size 0 [])) (t' := s.toks) (fun _ _ q => Heap.get?_push_of_some _ q) (Nat.le_refl _) (dd_empty s.heap I.big), rfl, h _ (I.hok.fresh (Nat.le_refl _))⟩⟩
theorem pc_dinE (hu : X.A.units + 9 < cLine) (hi : PE X i ty) (ho : PE X o td) : PC X .In i o (tDInE X.K X.w ty td) := by
  refine ⟨fun pins s σ H Q I h => ?_⟩
  refine thn (hi.run pins s σ H _ I h) fun iv s1 ⟨y, H1, I1, ry, q1⟩ => thn (ho.run pins s1 σ H1 _ I1 q1) fun u s2 ⟨x, H2, I2, rx, a, b, vs, k, ex, ey, hd, hk, q2⟩ => ?_
  subst ex ey
  obtain rfl : u = Value.ref a := rx
  obtain rfl : iv = Value.ref b := ry
  obtain ⟨ep, he⟩ := hd.1
  exact dd_in hu I2 he (fun p m => (hd.2 p m).is I2) (hk.is I2) fun s3 I3 => ⟨.bl (valE vs k).isSome, H2, I3, rfl, q2⟩
theorem pc_dnotinE (hu : X.A.units + 9 < cLine) (hi : PE X i ty) (ho : PE X o td) : PC X .NotIn i o (tDNotInE X.K X.w ty td) := by
  refine ⟨fun pins s σ H Q I h => ?_⟩
  refine thn (hi.run pins s σ H _ I h) fun iv s1 ⟨y, H1, I1, ry, q1⟩ => thn (ho.run pins s1 σ H1 _ I1 q1) fun u s2 ⟨x, H2, I2, rx, a, b, vs, k, ex, ey, hd, hk, q2⟩ => ?_
  subst ex ey
  obtain rfl : u = Value.ref a := rx
  obtain rfl : iv = Value.ref b := ry
  obtain ⟨ep, he⟩ := hd.1
  exact dd_notIn hu I2 he (fun p m => (hd.2 p m).is I2) (hk.is I2) fun s3 I3 => ⟨.bl (!(valE vs k).isSome), H2, I3, rfl, q2⟩
theorem pe_dgetE (hu : X.A.units + 9 < cLine) (ho : PE X o td) (hi : PE X i ty) (hs : NoSl i) : PE X (.Subscript o i pos) (tDGetE X.K X.w td ty) := by
  refine ⟨fun pins s σ H Q I h => ?_⟩
  refine subD_of PySem.F.slot_dict_getitem.lookup hs (thn (ho.run pins s σ H _ I h) fun u s1 ⟨x, H1, I1, rx, q1⟩ => thn (hi.run pins s1 σ H1 _ I1 q1) fun iv s2 ⟨y, H2, I2, ry, a, b, vs, k, v, ex, ey, hd, hk, l, q2⟩ => ?_)
  subst ex ey
  obtain rfl : u = Value.ref a := rx
  obtain rfl : iv = Value.ref b := ry
  have hD := fun p m => (hd.2 p m).is I2
  obtain ⟨ep, he⟩ := hd.1
  obtain ⟨_, _, xs, _, ob, _, _, h1, h2, _⟩ := dd_of I2.hok he hD
  exact ⟨⟨ob, h1, h2.1⟩, dd_get hu I2 he hD (hk.is I2) l fun w' s3 I3 rw' => ⟨v, H2, I3, rw', q2⟩⟩
theorem ps_dputE (hu : X.A.units + 9 < cLine) (ho : PE X o td) (hi : PE X i ty) (hv : PE X value tv) (hs : swapsWith value (some (.Subscript o i pos')) pos.line X.env = pure false) :
    PS X (.Assign [.Subscript o i pos'] value pos) (sDPutE X.K X.w td ty tv) := by
  refine ⟨fun pins s σ H D I h => ?_⟩
  refine wpAny_Assign_Subscript (thn (hv.run pins s σ H _ I h) fun r s1 ⟨v, H1, I1, rv, q1⟩ => thn (ho.run pins s1 σ H1 _ I1 q1) fun u s2 ⟨x, H2, I2, rx, q2⟩ => thn (hi.run pins s2 σ H2 _ I2 q2) fun iv s3 ⟨y, H3, I3, ry, a, b, vs, k, ex, ey, hd, hk, hl, q3⟩ => ?_) hs
  subst ex ey
  obtain rfl : u = Value.ref a := rx
  obtain rfl : iv = Value.ref b := ry
  obtain ⟨ep, he⟩ := hd.1
  exact dd_set hu I3 he (fun p m => (hd.2 p m).is I3) (hk.is I3) hl rv fun ep' s4 I4 => ⟨σ, _, I4, q3 ep'⟩
end
/-! ### over data -/
noncomputable def valD (kvs : List (PyData × Av)) (k : PyData) : Option Av := (kvs.find? fun p => decide (p.1 = k)).map (·.2)
noncomputable def putD (kvs : List (PyData × Av)) (k : PyData) (a : Av) : List (PyData × Av) := if (valD kvs k).isSome then kvs.map (fun p => if p.1 = k then (p.1, a) else p) else kvs ++ [(k, a)]
section
variable {K : PySem.W.Frag} [Tb K] {Γ : List (Option Av)} {Ω : AH} {E : EndA} {P : Av → AH → Prop} {te td ty tv tx : TE} {t u : TS} {tl : TA} {i : Nat} {w : World}
theorem DdAll.val {F : Hp} {kvs : List (PyData × Av)} {vs : Ent} (g : DdAll K F kvs vs) (k : PyData) : (valD kvs k = none ∧ valE vs k = none) ∨ ∃ a v, valD kvs k = some a ∧ valE vs k = some v ∧ VOk K F a v := by
  induction g with
  | nil => exact .inl ⟨rfl, rfl⟩
  | @cons p q ps qs h t ih =>
    obtain ⟨h1, _, _, h2⟩ := h
    by_cases e : p.1 = k
    · have e' : q.1 = k := h1.symm.trans e
      exact .inr ⟨p.2, q.2.2, by simp [valD, List.find?_cons, e], by simp [valE, List.find?_cons, e'], h2⟩
    · have e' : ¬ q.1 = k := fun z => e (h1.trans z)
      have a1 : valD (p :: ps) k = valD ps k := by simp [valD, List.find?_cons, e]
      have a2 : valE (q :: qs) k = valE qs k := by simp [valE, List.find?_cons, e']
      rw [a1, a2]
      exact ih
theorem DdAll.put {F : Hp} {kvs : List (PyData × Av)} {vs : Ent} (g : DdAll K F kvs vs) {k : PyData} {b : Addr} {a : Av} {v : V} (hk : keyd k = true ∧ k.depth ≤ 8) (hd : Dq K F (.ref b) k) (hv : VOk K F a v) : DdAll K F (putD kvs k a) (putE vs k b v) := by
  have e : (valD kvs k).isSome = (valE vs k).isSome := by
    rcases g.val k with ⟨h1, h2⟩ | ⟨_, _, h1, h2, _⟩ <;> rw [h1, h2] <;> rfl
  unfold putD putE
  rw [e]
  by_cases q : (valE vs k).isSome = true
  · rw [if_pos q, if_pos q]
    clear e q
    induction g with
    | nil => exact .nil
    | @cons p y ps ys h t ih =>
      rw [List.map_cons, List.map_cons]
      refine .cons ?_ ih
      obtain ⟨h1, h2, h3, h4⟩ := h
      by_cases z : p.1 = k
      · rw [if_pos z, if_pos (h1.symm.trans z)]
        exact ⟨h1, h2, h3, hv⟩
      · rw [if_neg z, if_neg (fun r => z (h1.trans r))]
        exact ⟨h1, h2, h3, h4⟩
  · rw [if_neg q, if_neg q]
    exact Paired.snoc g ⟨rfl, hk, hd, hv⟩
theorem DdAll.at {F H : Hp} (s : Same F H) {kvs : List (PyData × Av)} {vs : Ent} (g : DdAll K F kvs vs) : ∀ p ∈ vs, KeyAt K H p.1 p.2.1 := by
  induction g with
  | nil => intro p m; cases m
  | @cons p q ps qs h t ih =>
    obtain ⟨h1, h2, h3, _⟩ := h
    intro y m
    rcases List.mem_cons.mp m with rfl | m
    · rw [← h1]
      exact ⟨h2, h3.same s⟩
    · exact ih y m
theorem dd_of' {F H : Hp} {σ : L2.St} (k : Ok K F Ω Γ σ H) {p a : Addr} {kvs : List (PyData × Av)} (e : Ω.o p = some (.dd w a kvs)) : ∃ ep vs, H p = some (.ext (ddP w a ep vs)) ∧ DdAll K (Fz Ω H) kvs vs := by
  obtain ⟨x, h1, h2⟩ := k.ob p _ e
  cases h2 with | dd h => exact ⟨_, _, h1, h⟩
theorem fz_same {H : Hp} : Same (Fz Ω H) H := fun _ _ e => Fz_le _ _ e
theorem key_val {F : Hp} {ds : List PyData} {v : V} (h : VOk K F (.dat (.tuple ds)) v) : ∃ b, v = .ref b ∧ Dq K F (.ref b) (.tuple ds) := by
  cases h with | dat h => cases h with | tup h g => exact ⟨_, rfl, .tup h g⟩
abbrev KeyD (ds : List PyData) : Prop := keyd (.tuple ds) = true ∧ (PyData.tuple ds).depth ≤ 8
theorem e_dnewE (h : ∀ p, Ω.Off p → P (.ptr p) (puto Ω p (.dd w p []))) : EW K (tDNewE w) Γ Ω P := fun F σ H Q k q p np =>
  q _ _ _ _ (h p (k.off np)) (k.newo np (.dd .nil)) (.ptr p)
theorem e_dinE (h : EW K ty Γ Ω fun a Ω1 => ∃ ds, a = .dat (.tuple ds) ∧ KeyD ds ∧ EW K td Γ Ω1 fun b Ω2 => ∃ p kvs, b = .ptr p ∧ Ω2.o p = some (.dd w p kvs) ∧ P (.dat (.bool (valD kvs (.tuple ds)).isSome)) Ω2) : EW K (tDInE K w ty td) Γ Ω P := fun F σ H Q k q =>
  h F σ H _ k fun a v Ω1 H1 ⟨ds, ea, hk, h1⟩ k1 v1 => h1 (Fz Ω1 H1) σ H1 _ k1.re fun b x Ω2 H2 ⟨p, kvs, eb, ep, hp⟩ k2 v2 => by
    subst ea eb
    obtain ⟨c, rfl, dq⟩ := key_val v1
    cases v2
    obtain ⟨ep1, ws, e1, g1⟩ := dd_of' k2 ep
    refine ⟨p, c, ws, .tuple ds, rfl, rfl, ⟨⟨ep1, e1⟩, g1.at fz_same⟩, ⟨hk, (dq.same k2.fr).same fz_same⟩, ?_⟩
    have es : (valE ws (.tuple ds)).isSome = (valD kvs (.tuple ds)).isSome := by
      rcases g1.val (.tuple ds) with ⟨h1, h2⟩ | ⟨_, _, h1, h2, _⟩ <;> rw [h1, h2] <;> rfl
    rw [es]
    exact q _ _ Ω2 H2 hp (k2.anchor k1.fr) (.dat (.bl _))
theorem e_dninE (h : EW K ty Γ Ω fun a Ω1 => ∃ ds, a = .dat (.tuple ds) ∧ KeyD ds ∧ EW K td Γ Ω1 fun b Ω2 => ∃ p kvs, b = .ptr p ∧ Ω2.o p = some (.dd w p kvs) ∧ P (.dat (.bool (!(valD kvs (.tuple ds)).isSome))) Ω2) : EW K (tDNotInE K w ty td) Γ Ω P := fun F σ H Q k q =>
  h F σ H _ k fun a v Ω1 H1 ⟨ds, ea, hk, h1⟩ k1 v1 => h1 (Fz Ω1 H1) σ H1 _ k1.re fun b x Ω2 H2 ⟨p, kvs, eb, ep, hp⟩ k2 v2 => by
    subst ea eb
    obtain ⟨c, rfl, dq⟩ := key_val v1
    cases v2
    obtain ⟨ep1, ws, e1, g1⟩ := dd_of' k2 ep
    refine ⟨p, c, ws, .tuple ds, rfl, rfl, ⟨⟨ep1, e1⟩, g1.at fz_same⟩, ⟨hk, (dq.same k2.fr).same fz_same⟩, ?_⟩
    have es : (valE ws (.tuple ds)).isSome = (valD kvs (.tuple ds)).isSome := by
      rcases g1.val (.tuple ds) with ⟨h1, h2⟩ | ⟨_, _, h1, h2, _⟩ <;> rw [h1, h2] <;> rfl
    rw [es]
    exact q _ _ Ω2 H2 hp (k2.anchor k1.fr) (.dat (.bl _))
theorem e_dgetE (h : EW K td Γ Ω fun b Ω1 => EW K ty Γ Ω1 fun a Ω2 => ∃ p kvs ds c, b = .ptr p ∧ Ω2.o p = some (.dd w p kvs) ∧ a = .dat (.tuple ds) ∧ KeyD ds ∧ valD kvs (.tuple ds) = some c ∧ P c Ω2) : EW K (tDGetE K w td ty) Γ Ω P := fun F σ H Q k q =>
  h F σ H _ k fun b x Ω1 H1 h1 k1 v1 => h1 (Fz Ω1 H1) σ H1 _ k1.re fun a v Ω2 H2 ⟨p, kvs, ds, c, eb, ep, ea, hk, ec, hp⟩ k2 v2 => by
    subst ea eb
    obtain ⟨b', rfl, dq⟩ := key_val v2
    cases v1
    obtain ⟨ep1, ws, e1, g1⟩ := dd_of' k2 ep
    rcases g1.val (.tuple ds) with ⟨h1, h2⟩ | ⟨c', y, h1, h2, h3⟩
    · rw [ec] at h1
      cases h1
    · rw [ec] at h1
      cases h1
      exact ⟨p, b', ws, .tuple ds, y, rfl, rfl, ⟨⟨ep1, e1⟩, g1.at fz_same⟩, ⟨hk, dq.same fz_same⟩, h2, q _ _ Ω2 H2 hp (k2.anchor k1.fr) h3⟩
theorem s_dputE (h : EW K tv Γ Ω fun c Ω1 => EW K td Γ Ω1 fun b Ω2 => EW K ty Γ Ω2 fun a Ω3 => ∃ p kvs ds, b = .ptr p ∧ Ω3.o p = some (.dd w p kvs) ∧ a = .dat (.tuple ds) ∧ KeyD ds ∧ kvs.length < 100000 ∧ E.nx Γ (puto Ω3 p (.dd w p (putD kvs (.tuple ds) c)))) : SW K (sDPutE K w td ty tv) Γ Ω E := fun F σ H D k e =>
  h F σ H _ k fun c y Ω1 H1 h1 k1 v1 => h1 (Fz Ω1 H1) σ H1 _ k1.re fun b x Ω2 H2 h2 k2 v2 => h2 (Fz Ω2 H2) σ H2 _ k2.re fun a v Ω3 H3 ⟨p, kvs, ds, eb, ep, ea, hk, hl, hn⟩ k3 v3 => by
    subst ea eb
    obtain ⟨b', rfl, dq⟩ := key_val v3
    cases v2
    obtain ⟨ep1, ws, e1, g1⟩ := dd_of' k3 ep
    refine ⟨p, b', ws, .tuple ds, rfl, rfl, ⟨⟨ep1, e1⟩, g1.at fz_same⟩, ⟨hk, dq.same fz_same⟩, by rw [← Paired.length g1]; exact sz_lt hl, fun ep2 => ?_⟩
    exact e.nx _ _ _ _ hn (((k3.anchor k2.fr).anchor k1.fr).puto ep (.dd (g1.put hk dq ((v1.same k2.fr).same k3.fr))))
end
end Dat

set_option Elab.async false
set_option linter.all false
set_option maxRecDepth 100000
set_option maxHeartbeats 1000000
/-! dicts and instances that are let go; in a list that may change; sorted of ints, any number; a lambda as the last argument -/
namespace Dat
open PySem PySem.Spec PyProof.Rows L2 LamX NdefX Clo
def delo (Ω : AH) (p : Addr) : AH := ⟨Ω.l, fun a => if a = p then none else Ω.o a⟩
theorem delo_puto {Ω : AH} {p : Addr} {u : Ob} (h : Ω.o p = none) : delo (puto Ω p u) p = Ω := by
  refine AH.ext (fun a => rfl) (funext fun a => ?_)
  unfold delo puto
  dsimp only
  split
  · next e => rw [e, h]
  · rfl
theorem delo_put {Ω : AH} {p q : Addr} {as : List Av} : delo (put Ω q as) p = put (delo Ω p) q as := rfl
theorem del_puto {Ω : AH} {p q : Addr} {u : Ob} : del (puto Ω q u) p = puto (del Ω p) q u := rfl
section
variable {K : PySem.W.Frag} [Tb K] {Γ : List (Option Av)} {Ω : AH} {E : EndA} {P : Av → AH → Prop} {te ta : TE} {t : TS} {p : Addr} {d : PyData} {ds : List PyData} {body : Expr} {j : Nat}
theorem Fz_delo {Ω : AH} {H : Hp} {p : Addr} : Same (Fz Ω H) (Fz (delo Ω p) H) := fun a o e => by
  obtain ⟨n, h2, h3⟩ := Fz_of e
  refine Fz_to ⟨n.1, ?_⟩ h2 h3
  unfold delo
  dsimp only
  split
  · rfl
  · exact n.2
theorem Ok.delo {F H : Hp} {σ : L2.St} (k : Ok K F Ω Γ σ H) : Ok K F (Dat.delo Ω p) Γ σ H := by
  have s : Same (Fz Ω H) (Fz (Dat.delo Ω p) H) := Fz_delo
  refine ⟨k.fr.trans s, fun q bs hq => ?_, k.sl.same s, k.tb, fun q u hq => ?_⟩
  · obtain ⟨xs, h1, h2⟩ := k.st q bs hq
    exact ⟨xs, h1, h2.same s⟩
  · have hq' : Ω.o q = some u := by
      unfold Dat.delo at hq
      dsimp only at hq
      split at hq
      · cases hq
      · exact hq
    obtain ⟨x, h1, h2⟩ := k.ob q u hq'
    exact ⟨x, h1, h2.same s⟩
theorem s_forgetO (p : Addr) (h : SW K t Γ (Dat.delo Ω p) E) : SW K t Γ Ω E := fun F σ H D k e => h F σ H D k.delo e
theorem EW.forgetO (h : EW K te Γ Ω fun a Ω' => ∃ p, P a (Dat.delo Ω' p)) : EW K te Γ Ω P := fun F σ H Q k q =>
  h F σ H Q k fun a v Ω' H' ⟨p, hp⟩ k' hv => q a v _ H' hp k'.delo (hv.same Fz_delo)
theorem EW.forget (h : EW K te Γ Ω fun a Ω' => ∃ p ds, Ω' p = some (List.map Av.dat ds) ∧ P a (del Ω' p)) : EW K te Γ Ω P := fun F σ H Q k q =>
  h F σ H Q k fun a v Ω' H' ⟨p, ds, e, hp⟩ k' hv => q a v _ H' hp (k'.frz e).1 (hv.same Fz_del)
theorem r_inP {neg : Bool} (o : Ω p = some (ds.map .dat)) (fd : canFlat d = true) (fe : ds.all canFlat = true) (h : P (.dat (.bool (if neg then !(ds.any fun e => PyData.eqv e d) else ds.any fun e => PyData.eqv e d))) Ω) : R2W K (rIn K neg) (.dat d) (.ptr p) Ω P := fun F H x y Q k hx hy q => by
  cases hx with | dat hx =>
    cases hy
    obtain ⟨xs, h1, h2⟩ := k.st p _ o
    have g := h2.dats
    refine ⟨p, xs, rfl, .inl (SqL.of h1), dq_flat hx fd, dqAll_flat g fe, ?_⟩
    rw [dq_in hx fd g fe]
    exact q _ _ _ _ h k (.dat (.bl _))
theorem sortedIQ {X : Cx} (hK : X.K = K) : CallR X (.builtin "sorted") (rSortedI K) := by subst hK; exact cr_sortedI
theorem c_sortedIP {ns : List Int} (h : ∀ (ns' : List Int) (q : Addr), ns'.Perm ns → ns'.Pairwise (· ≤ ·) → Ω.Off q → P (.ptr q) (put Ω q ((ns'.map PyData.int).map .dat))) : RCW K (rSortedI K) [.dat (.list (ns.map PyData.int))] Ω P := fun F H xs Q k hx q => by
  cases hx with | cons hx hr => cases hr; cases hx with | dat hx =>
    obtain ⟨a, rfl, ha⟩ := dq_intsL (hx.same Fz_le)
    exact ⟨a, ns, rfl, SqL.of ha, fun ns' p h1 h2 np => q _ _ _ _ (h ns' p h1 h2 (k.off np)) (k.new np (.ofDats DqAll.ofInts)) (.ptr p)⟩
theorem c_sortedIF {ns : List Int} (h : ∀ ns' : List Int, ns'.Perm ns → ns'.Pairwise (· ≤ ·) → P (.dat (.list (ns'.map PyData.int))) Ω) : RCW K (rSortedI K) [.dat (.list (ns.map PyData.int))] Ω P := fun F H xs Q k hx q => by
  cases hx with | cons hx hr => cases hr; cases hx with | dat hx =>
    obtain ⟨a, rfl, ha⟩ := dq_intsL (hx.same Fz_le)
    exact ⟨a, ns, rfl, SqL.of ha, fun ns' p h1 h2 np => q _ _ _ _ (h ns' h1 h2) (k.same (same_new np)) (.dat (lst_new k np DqAll.ofInts))⟩
theorem c_sortedIPP {ns : List Int} (o : Ω p = some ((ns.map PyData.int).map .dat)) (h : ∀ ns' : List Int, ns'.Perm ns → ns'.Pairwise (· ≤ ·) → P (.dat (.list (ns'.map PyData.int))) Ω) : RCW K (rSortedI K) [.ptr p] Ω P := fun F H xs Q k hx q => by
  cases hx with
  | cons hx hr =>
    cases hr
    cases hx
    obtain ⟨ys, h1, h2⟩ := k.st p _ o
    have g := h2.dats.ints
    subst g
    exact ⟨p, ns, rfl, SqL.of h1, fun ns' q' g1 g2 np => q _ _ _ _ (h ns' g1 g2) (k.same (same_new np)) (.dat (lst_new k np DqAll.ofInts))⟩
/-- g(a, lambda): the lambda holds one name of the running frame -/
theorem e_callL2 {E : XK} {q : Str} {mk : Addr → NF} {sp : CSp} {d : PyData} (hc : ∀ c', (mk c').c = c') (hq : ∀ c', (mk c').qual = q) (e : Γ[j]? = some (some (.dat d)))
    (h : EW K ta Γ Ω fun a Ω1 => ∀ f c' sv, sp f c' [(sv, d)] [a, .fn f [(f, LamO f (mk c') body), ((mk c').c, CodeO (mk c').c (mk c').qual)] [(sv, d)]] Ω1 P) :
    EW K (tCallC [j] (spCl K sp) E (tCons ta (tCons (tLamE (Tb.T (K := K)) q mk body) tNil))) Γ Ω P := fun F σ H Q k r =>
  h F σ H _ k fun a v Ω1 H1 h1 k1 v1 => ⟨k1.tb, fun f c' Hl x1 nn hT1 nf ef ec => by
    have kl := k1.ext x1 hT1
    obtain ⟨sv, esv, hsv⟩ := kl.val e
    have nf1 : Ω1.Off f := k1.off nf
    have nc1 : Ω1.Off c' := by
      constructor
      · cases z : Ω1 c' with
        | none => rfl
        | some as =>
          obtain ⟨xs, e1, _⟩ := kl.st c' as z
          rw [ec] at e1
          cases e1
      · cases z : Ω1.o c' with
        | none => rfl
        | some u =>
          obtain ⟨y, e1, e2⟩ := kl.ob c' u z
          rw [ec] at e1
          cases e1
          exact absurd rfl (e2.ncode _ _)
    have g1 : Fz Ω1 Hl f = some (LamO f (mk c') body) := Fz_to nf1 ef fun q z => by cases z
    have g2 : Fz Ω1 Hl c' = some (CodeO c' q) := Fz_to nc1 ec fun q z => by cases z
    refine ⟨f, c', Fz Ω1 Hl, Ω1, _, P, [(sv, d)], kl.bare.re, .cons (v1.same (Fz_ext x1)) (.cons (.fn (fun p m => ?_) fun c m => ?_) .nil), ?_, h1 f c' sv, fun a v Ω' H' hp k' hv => r a v Ω' H' hp (kl.back k') hv⟩
    · rw [List.mem_cons, List.mem_singleton] at m
      rcases m with rfl | rfl
      · exact g1
      · show Fz Ω1 Hl (mk c').c = some (CodeO (mk c').c (mk c').qual)
        rw [hc, hq]
        exact g2
    · rw [List.mem_singleton] at m
      subst m
      cases hsv with | dat hd => exact hd
    · show [NdefX.slotAt σ j] = [some sv]
      unfold NdefX.slotAt
      rw [esv]⟩
end
/-! ### sorting -/
def ins (z : Int) : List Int → List Int
  | [] => [z]
  | a :: r => if z ≤ a then z :: a :: r else a :: ins z r
def srt : List Int → List Int
  | [] => []
  | a :: r => ins a (srt r)
theorem ins_perm (z : Int) : ∀ l : List Int, (ins z l).Perm (z :: l)
  | [] => .refl _
  | a :: r => by
    unfold ins
    split
    · exact .refl _
    · exact ((ins_perm z r).cons a).trans (.swap z a r)
theorem srt_perm : ∀ l : List Int, (srt l).Perm l
  | [] => .refl _
  | a :: r => (ins_perm a (srt r)).trans ((srt_perm r).cons a)
theorem ins_sorted (z : Int) : ∀ {l : List Int}, l.Pairwise (· ≤ ·) → (ins z l).Pairwise (· ≤ ·)
  | [], _ => List.pairwise_singleton _ _
  | a :: r, h => by
    unfold ins
    have h0 := h
    rw [List.pairwise_cons] at h0
    split
    · next hz =>
      refine List.pairwise_cons.mpr ⟨fun b hb => ?_, h⟩
      rcases List.mem_cons.mp hb with rfl | hb
      · exact hz
      · exact Int.le_trans hz (h0.1 b hb)
    · next hz =>
      refine List.pairwise_cons.mpr ⟨fun b hb => ?_, ins_sorted z h0.2⟩
      rcases List.mem_cons.mp ((ins_perm z r).mem_iff.mp hb) with rfl | hb
      · omega
      · exact h0.1 b hb
theorem srt_sorted : ∀ l : List Int, (srt l).Pairwise (· ≤ ·)
  | [] => List.Pairwise.nil
  | a :: r => ins_sorted a (srt_sorted r)
theorem sorted_one : ∀ {l m : List Int}, l.Perm m → l.Pairwise (· ≤ ·) → m.Pairwise (· ≤ ·) → l = m
  | [], m, p, _, _ => (List.Perm.eq_nil p.symm).symm
  | a :: r, [], p, _, _ => absurd p.length_eq (by simp)
  | a :: r, b :: s, p, h1, h2 => by
    rw [List.pairwise_cons] at h1 h2
    have ab : a = b := by
      rcases List.mem_cons.mp (p.mem_iff.mp (List.mem_cons_self (a := a) (l := r))) with e | m1
      · exact e
      · rcases List.mem_cons.mp (p.mem_iff.mpr (List.mem_cons_self (a := b) (l := s))) with e | m2
        · exact e.symm
        · have := h1.1 b m2
          have := h2.1 a m1
          omega
    subst ab
    rw [sorted_one ((List.perm_cons a).mp p) h1.2 h2.2]
theorem srt_of {l ns : List Int} (p : l.Perm ns) (h : l.Pairwise (· ≤ ·)) : l = srt ns := sorted_one (p.trans (srt_perm ns).symm) h (srt_sorted ns)
end Dat

set_option Elab.async false
set_option linter.all false
set_option maxRecDepth 100000
set_option maxHeartbeats 1000000
/-! such a dict made by {k: v}; frozen: its values data; walked by its keys -/
namespace Dat
open PySem PySem.Spec PyProof.Rows L2 Dkd
/-- {k: v} -/
def tDisp1E (K : PySem.W.Frag) (w : World) (tk tv : TE) : TE := fun σ H Q => ∀ p, H p = none → tk σ (upd H p (.ext (ddP w p 0 []))) fun y H1 => tv σ H1 fun v H2 => ∃ (b : Addr) (k : PyData), y = .ref b ∧ KeyAt K H2 k b ∧ (∃ ep, H2 p = some (.ext (ddP w p ep []))) ∧
  ∀ ep, Q (.ref p) (upd H2 p (.ext (ddP w p ep [(k, b, v)])))
/-- the keys of the dict at d, while it stands -/
def ItkE (w : World) (d : Addr) (ep : Nat) (vs : Ent) : It :=
  ⟨fun i H => H d = some (.ext (ddP w d ep vs)) ∧ i < vs.length, fun i H x H' => H' = H ∧ ∃ (k : PyData) (b : Addr) (v : V), vs[i]? = some (k, b, v) ∧ x = .ref b, fun i H => H d = some (.ext (ddP w d ep vs)) ∧ vs.length ≤ i⟩
def iKeysE (w : World) (td : TE) : TI := fun σ H R => td σ H fun x H1 => ∃ d ep vs, x = .ref d ∧ H1 d = some (.ext (ddP w d ep vs)) ∧ R (ItkE w d ep vs) H1
section
variable {X : Cx} {o i e value tg : Expr} {pos pos' tpos : Pos} {td ty tv tk : TE}
theorem pe_disp1E {k v : Expr} (hu : X.A.units + 9 < cLine) (hk : PE X k tk) (hv : PE X v tv) : PE X (.Dict [some k] [v] pos) (tDisp1E X.K X.w tk tv) := by
  refine ⟨fun pins s σ H Q I q => ?_⟩
  have hn := I.hok.fresh (Nat.le_refl s.heap.objs.size)
  have I1 := I.laid (a := s.heap.objs.size) (o := .ext (ddP X.w s.heap.objs.size 0 [])) (h' := s.heap.push { cls := .type "dict", data := .dict #[] }) (t' := s.toks) (fun _ _ q => Heap.get?_push_of_some _ q) (Nat.le_refl _) (dd_empty s.heap I.big)
  rw [arm_eval_Dict, zip_pairTrees [some k] [v] X.env pos rfl rfl, dictDisplay_pairs _ (by simp [pairTrees]) (by simp [pairTrees])]
  refine wpAny_bind (wpAny_standAt (wpAny_bind (wpAny_subDictH (knd := dataKind) (Q := fun d s' => wpAny (model X.prog X.w) X.A (pure (Value.ref d)) (EP X pins σ Q) X.xe s') (show X.A.units + 8 < cLine by omega) (by simp [pairTrees]) ?_)))
  refine pairTrees_cons_walk (thn (hk.run pins _ σ _ _ I1 (q _ hn)) fun u s1 ⟨y, H1, I2, ry, q1⟩ => thn (hv.run pins s1 σ H1 _ I2 q1) fun u2 s2 ⟨v, H2, I3, rv, b, k, ey, hka, ⟨ep0, ep⟩, q2⟩ => pairTrees_nil_walk ?_)
  subst ey
  obtain rfl : u = Value.ref b := ry
  obtain ⟨z, hd, xs, rel, dd⟩ := dd_of (P := X.prog) I3.hok ep (fun p m => by cases m)
  cases rel
  refine ⟨[(k, b, u2)], ⟨rfl, rfl, hka.is I3, trivial⟩, dd, fun h' tk dd' hs => wpAny_pure ?_⟩
  have es : storedAllH ([] : List (PyData × Addr × Value)) [(k, b, u2)] = [(k, b, u2)] := by
    simp [storedAllH, storedH, atKey]
  rw [es] at dd'
  obtain ⟨o', es', ep', hq, h2, h3, h4, _, h5⟩ := dd'
  refine ⟨.ref s.heap.objs.size, _, ?_, rfl, q2 ep'⟩
  exact d_write I3 (by rw [ep]; exact True.intro) hs ⟨o', hq⟩ (dd_ext ⟨by show 1 ≤ sizeLine; rw [sizeLine_eq]; decide, hd, _, .cons ⟨rfl, rfl, rv⟩ .nil, o', es', hq, h2, h3, h4, h5⟩)
theorem dd_obj {pins : List (Addr × Obj)} {σ : L2.St} {H : Hp} {s : Shared} (I : Inv X pins σ H s) {d : Addr} {ep : Nat} {vs : Ent} (h : H d = some (.ext (ddP X.w d ep vs))) :
    (d == sysModules) = false ∧ ∃ (o : Obj) (es : Array DictEntry), s.heap.get? d = some o ∧ o.ExactDict ∧ o.data = .dict es ep ∧ es.size = vs.length ∧
      ∀ (i : Nat) (k : PyData) (b : Addr) (v : V), vs[i]? = some (k, b, v) → ∃ en : DictEntry, es[i]? = some en ∧ en.key = .ref b := by
  have x : ObjOk X.prog X.w H s.heap d (.ext (ddP X.w d ep vs)) := I.hok d _ h
  obtain ⟨z, hs, xs, rel, o, es, ho, hx, hdt, he, _⟩ := x.1
  have l1 : es.size = xs.length := by rw [← Array.length_toList, he, List.length_map]
  refine ⟨hs, o, es, ho, hx, hdt, by rw [l1]; exact (Paired.length rel).symm, fun i k b v e => ?_⟩
  obtain ⟨y, hy, _, e2, _⟩ := paired_get rel e
  refine ⟨entD X.w y, ?_, ?_⟩
  · rw [← Array.getElem?_toList, he, List.getElem?_map, hy]
    rfl
  · show Value.ref y.2.1 = .ref b
    rw [← e2]
theorem turn_keysE {P : Program} {w : World} {K : PySem.W.Frag} {d : Addr} {ep : Nat} {vs : Ent} (it : Addr) : Turn P w K tg (ItkE w d ep vs) [it] it (fun i h => h.IsKeyIter it d i vs.length ep) where
  mem := by simp
  obj := fun i h st b hb => by
    have e : b = it := by simpa using hb
    subst e
    obtain ⟨oi, e, c, dd⟩ := st
    exact ⟨oi, e, fun v z => by rw [dd] at z; cases z⟩
  keep := fun i h h' st k => st.at fun oi e => k it (by simp) oi e
  item := by
    intro X hP hw hK hc i pins s σ H E I hf st hg
    subst hP hw hK
    obtain ⟨hd, hi⟩ := hg
    obtain ⟨f0, f1, f2, f3, f4, f5⟩ := hf it (by simp)
    obtain ⟨hs, o, es, hgd, hx, hdt, hsz, ent⟩ := dd_obj I hd
    obtain ⟨⟨k, b, v⟩, hkv⟩ : ∃ p, vs[i]? = some p := ⟨vs[i], List.getElem?_eq_getElem hi⟩
    obtain ⟨en, hen, hkey⟩ := ent i k b v hkv
    refine next_key_item st hgd hdt hsz hen fun h' st' sb => ?_
    have I1 : Inv X pins σ H { s with heap := h' } := I.turned (t' := s.toks) (fun b ob hb e => (sb.2 b hb).trans e) f0 f1 f3 f4 f5
    obtain ⟨oi, e, c, dd⟩ := id st'
    exact ⟨en.key, rfl, go_of (s := { s with heap := h' }) e c dd (by decide) ⟨.ref b, H, I1, hkey, ⟨rfl, k, b, v, hkv, rfl⟩, st', fun b hb => (hf b hb).1⟩⟩
  done := by
    intro X hP hw hK hc i pins s σ H E I hf st hg
    subst hP hw hK
    obtain ⟨hd, hi⟩ := hg
    obtain ⟨f0, f1, f2, f3, f4, f5⟩ := hf it (by simp)
    obtain ⟨hs, o, es, hgd, hx, hdt, hsz, ent⟩ := dd_obj I hd
    exact next_key_end (I.ok.hd hc) st hgd hdt hsz hi fun h' eb => ⟨rfl, I.turned (t' := s.toks) (fun b ob hb e => eb b ob hb e) f0 f1 f3 f4 f5⟩
  self := fun A i s Q E st h => wpAny_pyIter_keyiter st h
theorem pi_keysE (he : PE X e td) : PI X tg e (iKeysE X.w td) := by
  refine ⟨fun pins s σ H R I h => ?_⟩
  refine thn (he.run pins s σ H _ I h) fun u s1 ⟨x, H1, I1, rx, d, ep, vs, ex, hd, q⟩ => ?_
  subst ex
  obtain rfl : u = Value.ref d := rx
  obtain ⟨hs, o, es, hgd, hx, hdt, hsz, ent⟩ := dd_obj I1 hd
  refine iter_keys hs hgd hx hdt (pi_one (tk := s1.toks) I1 _ (turn_keysE _) ⟨_, Heap.get?_push_size _ rfl, rfl, ?_⟩ q)
  rw [hsz] <;> rfl
end
end Dat

set_option Elab.async false
set_option linter.all false
set_option maxRecDepth 100000
set_option maxHeartbeats 1000000
/-! over data: such a dict made, frozen, read, walked -/
namespace Dat
open PySem PySem.Spec PyProof.Rows L2 Dkd
/-- an entry of a frozen one: key, where the key stands, value, the value's datum -/
abbrev Fe := PyData × Addr × V × PyData
def entL (l : List Fe) : Ent := l.map fun x => (x.1, x.2.1, x.2.2.1)
def capL (l : List Fe) : List (V × PyData) := l.map (fun x => (V.ref x.2.1, x.1)) ++ l.map fun x => (x.2.2.1, x.2.2.2)
def dataL (l : List Fe) : List (PyData × PyData) := l.map fun x => (x.1, x.2.2.2)
abbrev KeysL (l : List Fe) : Prop := ∀ x ∈ l, keyd x.1 = true ∧ x.1.depth ≤ 8
abbrev FzD (w : World) (p : Addr) (ep : Nat) (l : List Fe) : Av := .fn p [(p, .ext (ddP w p ep (entL l)))] (capL l)
abbrev datV (kds : List (PyData × PyData)) : List (PyData × Av) := kds.map fun x => (x.1, .dat x.2)
section
variable {K : PySem.W.Frag} [Tb K] {Γ : List (Option Av)} {Ω : AH} {E : EndA} {P : Av → AH → Prop} {te td ty tv tk : TE} {t u : TS} {tl : TA} {i : Nat} {w : World}
theorem DdAll.frozen {F : Hp} : ∀ {kds : List (PyData × PyData)} {vs : Ent}, DdAll K F (datV kds) vs → ∃ l, entL l = vs ∧ dataL l = kds ∧ KeysL l ∧ ∀ c ∈ capL l, Dq K F c.1 c.2
  | [], _, g => by
    cases g
    exact ⟨[], rfl, rfl, (fun x m => by cases m), (fun c m => by cases m)⟩
  | (k, d) :: r, _, g => by
    have e : datV ((k, d) :: r) = (k, .dat d) :: datV r := rfl
    rw [e] at g
    cases g with
    | @cons _ q _ qs h t =>
      obtain ⟨h1, h2, h3, h4⟩ := h
      obtain ⟨l, e1, e2, e3, e4⟩ := DdAll.frozen t
      obtain ⟨k', b, v⟩ := q
      cases h1
      cases h4 with | dat h4 =>
        refine ⟨(k, b, v, d) :: l, ?_, ?_, fun x m => ?_, fun c m => ?_⟩
        · show (k, b, v) :: entL l = _
          rw [e1]
        · show (k, d) :: dataL l = _
          rw [e2]
        · rcases List.mem_cons.mp m with rfl | m
          · exact h2
          · exact e3 x m
        · have m' : c ∈ ((V.ref b, k) :: l.map (fun x => (V.ref x.2.1, x.1))) ++ ((v, d) :: l.map fun x => (x.2.2.1, x.2.2.2)) := m
          rcases List.mem_append.mp m' with m | m
          · rcases List.mem_cons.mp m with rfl | m
            · exact h3
            · exact e4 c (List.mem_append_left _ m)
          · rcases List.mem_cons.mp m with rfl | m
            · exact h4
            · exact e4 c (List.mem_append_right _ m)
theorem e_disp1E (h : ∀ p, Ω.Off p → EW K tk Γ (puto Ω p (.dd w p [])) fun a Ω1 => ∃ ds, a = .dat (.tuple ds) ∧ KeyD ds ∧ EW K tv Γ Ω1 fun b Ω2 => Ω2.o p = some (.dd w p []) ∧ P (.ptr p) (puto Ω2 p (.dd w p [(.tuple ds, b)]))) : EW K (tDisp1E K w tk tv) Γ Ω P := fun F σ H Q k q p np =>
  h p (k.off np) F σ _ _ (k.newo np (.dd .nil)) fun a y Ω1 H1 ⟨ds, ea, hk, h1⟩ k1 v1 => h1 (Fz Ω1 H1) σ H1 _ k1.re fun b v Ω2 H2 ⟨ep, hp⟩ k2 v2 => by
    subst ea
    obtain ⟨c, rfl, dq⟩ := key_val v1
    obtain ⟨ep1, ws, e1, g1⟩ := dd_of' k2 ep
    cases g1
    refine ⟨c, .tuple ds, rfl, ⟨hk, (dq.same k2.fr).same fz_same⟩, ⟨ep1, e1⟩, fun ep2 => ?_⟩
    exact q _ _ _ _ hp ((k2.anchor k1.fr).puto ep (.dd (.cons ⟨rfl, hk, dq.same k2.fr, v2⟩ .nil))) (.ptr p)
/-- the dict is let go, what it holds stays told -/
theorem fz_dict {F H : Hp} {σ : L2.St} (k : Ok K F Ω Γ σ H) {p : Addr} {kds : List (PyData × PyData)} (e : Ω.o p = some (.dd w p (datV kds))) :
    ∃ ep l, dataL l = kds ∧ KeysL l ∧ VOk K (Fz (delo Ω p) H) (FzD w p ep l) (.ref p) := by
  obtain ⟨ep, vs, e1, g⟩ := dd_of' k e
  obtain ⟨l, e2, e3, e4, e5⟩ := DdAll.frozen g
  refine ⟨ep, l, e3, e4, .fn (fun q m => ?_) fun c m => (e5 c m).same Fz_delo⟩
  rw [List.mem_singleton.mp m]
  subst e2
  have off : (delo Ω p).Off p := by
    refine ⟨?_, if_pos rfl⟩
    show Ω.l p = none
    cases z : Ω.l p with
    | none => rfl
    | some as =>
      have := k.noO (p := p) z
      rw [e] at this
      cases this
  exact Fz_to off e1 fun q z => by cases z
theorem EW.dfrz (h : EW K te Γ Ω fun a Ω1 => ∃ p kds, a = .ptr p ∧ Ω1.o p = some (.dd w p (datV kds)) ∧ ∀ ep l, dataL l = kds → KeysL l → P (FzD w p ep l) (delo Ω1 p)) : EW K te Γ Ω P := fun F σ H Q k q =>
  h F σ H Q k fun a v Ω1 H1 ⟨p, kds, ea, e, hp⟩ k1 v1 => by
    subst ea
    cases v1
    obtain ⟨ep, l, e1, e2, hv⟩ := fz_dict k1 e
    exact q _ _ _ _ (hp ep l e1 e2) k1.delo hv
/-- what the frozen one holds -/
noncomputable def lookL (l : List Fe) (k : PyData) : Option PyData := (l.find? fun x => decide (x.1 = k)).map (·.2.2.2)
theorem entL_val (l : List Fe) (k : PyData) : (lookL l k = none ∧ valE (entL l) k = none) ∨ ∃ x, x ∈ l ∧ lookL l k = some x.2.2.2 ∧ valE (entL l) k = some x.2.2.1 := by
  induction l with
  | nil => exact .inl ⟨rfl, rfl⟩
  | cons x l ih =>
    by_cases e : x.1 = k
    · exact .inr ⟨x, List.mem_cons_self, by simp [lookL, List.find?_cons, e], by simp [valE, entL, List.find?_cons, e]⟩
    · have a1 : lookL (x :: l) k = lookL l k := by simp [lookL, List.find?_cons, e]
      have a2 : valE (entL (x :: l)) k = valE (entL l) k := by simp [valE, entL, List.find?_cons, e]
      rw [a1, a2]
      rcases ih with h | ⟨y, m, h⟩
      · exact .inl h
      · exact .inr ⟨y, List.mem_cons_of_mem _ m, h⟩
theorem fz_at {F H : Hp} {p : Addr} {ep : Nat} {l : List Fe} {v : V} (hk : KeysL l) (s : Same F H) (h : VOk K F (FzD w p ep l) v) : v = .ref p ∧ H p = some (.ext (ddP w p ep (entL l))) ∧ (∀ q ∈ entL l, KeyAt K H q.1 q.2.1) ∧ ∀ x ∈ l, Dq K F x.2.2.1 x.2.2.2 := by
  cases h with
  | fn h g =>
    refine ⟨rfl, s _ _ (h (p, _) List.mem_cons_self), fun q m => ?_, fun x m => g _ (List.mem_append_right _ (List.mem_map.mpr ⟨x, m, rfl⟩))⟩
    obtain ⟨x, mx, rfl⟩ := List.mem_map.mp m
    exact ⟨hk x mx, (g _ (List.mem_append_left _ (List.mem_map.mpr ⟨x, mx, rfl⟩))).same s⟩
/-- d[y], d frozen -/
theorem e_dgetF (h : EW K td Γ Ω fun b Ω1 => ∃ p ep l, b = FzD w p ep l ∧ KeysL l ∧ EW K ty Γ Ω1 fun a Ω2 => ∃ ds d, a = .dat (.tuple ds) ∧ KeyD ds ∧ lookL l (.tuple ds) = some d ∧ P (.dat d) Ω2) : EW K (tDGetE K w td ty) Γ Ω P := fun F σ H Q k q =>
  h F σ H _ k fun b x Ω1 H1 ⟨p, ep, l, eb, hl, h1⟩ k1 v1 => h1 (Fz Ω1 H1) σ H1 _ k1.re fun a v Ω2 H2 ⟨ds, d, ea, hk, ec, hp⟩ k2 v2 => by
    subst ea eb
    obtain ⟨b', rfl, dq⟩ := key_val v2
    obtain ⟨rfl, e1, e2, e3⟩ := fz_at hl fz_same (v1.same k2.fr)
    rcases entL_val l (.tuple ds) with ⟨h1, h2⟩ | ⟨x, m, h1, h2⟩
    · rw [ec] at h1
      cases h1
    · rw [ec] at h1
      cases h1
      exact ⟨p, b', entL l, .tuple ds, x.2.2.1, rfl, rfl, ⟨⟨ep, e1⟩, e2⟩, ⟨hk, dq.same fz_same⟩, h2, q _ _ Ω2 H2 hp (k2.anchor k1.fr) (.dat (e3 x m))⟩
/-- for k in d, d frozen -/
theorem i_keysF {P : List Av → AH → Prop} (h : EW K te Γ Ω fun a Ω1 => ∃ p ep l, a = FzD w p ep l ∧ KeysL l ∧ P ((l.map (·.1)).map .dat) Ω1) : IW K (iKeysE w te) Γ Ω P := fun F σ H R k q =>
  h F σ H _ k fun a v Ω1 H1 ⟨p, ep, l, ea, hl, hp⟩ k1 v1 => by
    subst ea
    obtain ⟨rfl, e1, _, _⟩ := fz_at hl fz_same v1
    refine ⟨p, ep, entL l, rfl, e1, q _ _ _ _ hp k1 ⟨fun Ω2 H2 k2 i b e => ?_, fun Ω2 H2 k2 => ?_⟩⟩
    · have s2 := k2.fr.trans fz_same
      cases v1 with | fn h1 g1 =>
        have e2 := s2 _ _ (h1 (p, _) List.mem_cons_self)
        rw [List.getElem?_map, List.getElem?_map] at e
        cases ex : l[i]? with
        | none => rw [ex] at e; cases e
        | some x =>
          rw [ex] at e
          cases e
          have hi : i < l.length := (List.getElem?_eq_some_iff.mp ex).1
          refine ⟨⟨e2, by unfold entL; rw [List.length_map]; exact hi⟩, fun y H' hy => ?_⟩
          obtain ⟨rfl, k3, b3, v3, e3, rfl⟩ := hy
          unfold entL at e3
          rw [List.getElem?_map, ex] at e3
          cases e3
          refine ⟨Same.refl _, .dat ?_⟩
          have m : (V.ref x.2.1, x.1) ∈ capL l := List.mem_append_left _ (List.mem_map.mpr ⟨x, List.mem_of_getElem? ex, rfl⟩)
          exact (g1 _ m).same k2.fr
    · have s2 := k2.fr.trans fz_same
      cases v1 with | fn h1 g1 =>
        refine ⟨s2 _ _ (h1 (p, _) List.mem_cons_self), ?_⟩
        unfold entL
        rw [List.length_map, List.length_map, List.length_map]
        exact Nat.le_refl _
end
end Dat

set_option Elab.async false
set_option linter.all false
set_option maxRecDepth 100000
set_option maxHeartbeats 1000000
/-! a def in a def that holds data, handed to a def of the text -/
namespace Clo
open PySem PySem.Spec PyProof.Rows L2 LamX NdefX
def tHeldN (i : Nat) (f : Addr) (F : NF) (ws : List (Option V)) (sp : List (Option V) → Sp) (E : XK) (t : TA) : TE := fun σ H Q => σ[i]? = some (some (.ref f)) ∧ H f = some (FnO f F) ∧
  t σ H fun vs H1 => H1 f = some (FnO f F) ∧ H1 F.c = some (CodeO F.c F.qual) ∧ sp ws vs H1 Q E
section
variable {X : Cx} {CX : CXT} {i j k : Nat} {x : Str} {f : Addr} {F : NF} {ps fr : List Str} {ws : List (Option V)} {sp : List (Option V) → Sp} {E : XK} {t : TA} {e : Expr} {es : List Expr} {p pos : Pos}
theorem pe_heldN (L : NOk X.prog X.w X.K X.mg X.base CX k f F ps fr sp) (C : CellsAt F.cl fr ws X.s_0.heap X.H_0) (hex : X.ex = []) (hr : Room j X.A) (hk : k ≤ j) (hx : Passes CX X E) (hN : X.N[i]? = some x) (hv : Vis X.env.scope x)
    (ha : PA X (e :: es) t) (hd : (x == ("__debug__" : Str)) = false := by decide) (hcd : (x == ("__classdict__" : Str)) = false := by decide)
    (he : starEach (e :: es) X.env = (false, eval e X.env) :: starEach es X.env := by rfl) (hpl : (backTo pos (starEach es X.env)).any (·.1) = false := by rfl) :
    PE X (.Call (.Name x p) (e :: es) [] pos) (tHeldN i f F ws sp E t) := by
  constructor
  intro pins s σ H Q I h
  obtain ⟨hs, hf, ht⟩ := h
  refine wpAny_Call_Name_kw (thn ((pe_var (pos := p) hN hv hd hcd).run pins s σ H (fun v H1 => v = .ref f ∧ H1 = H) I ⟨.ref f, hs, rfl, rfl⟩) fun u s1 z => ?_)
  obtain ⟨v, H1, I1, r1, rfl, eH⟩ := z
  rw [eH] at I1
  cases (show u = Value.ref f from r1)
  refine PySem.W.callWith_F (first := []) (fnAt_of I1 hf) (thn (ha.run pos pins s1 σ H _ I1 ht) fun us s2 z => ?_) he hpl
  obtain ⟨vs, H2, I2, r, h1, h2, q⟩ := z
  refine ⟨fnAt_of I2 h1, ?_⟩
  refine wpAny_call (codeAny_mono (L.run X.A X.stack s2 H2 us vs ws Q E (hr.mono hk) I2.env0 h1 h2 (cells_later C hex I2) r q) fun r s' hq => ?_)
  cases r with
  | error e => exact hx pins σ H2 s2 e s' I2 hq
  | ok fl =>
    cases fl with
    | ret u => exact I2.after hq
    | next => exact hq.elim
    | brk => exact hq.elim
    | cont => exact hq.elim
end
end Clo
namespace Dat
open PySem PySem.Spec PyProof.Rows L2 LamX NdefX Clo
section
variable {P : Program} {w : World} {K : PySem.W.Frag} [Tb K] {mg : Str → Option Value} {base : Heap}
theorem nokA_of {N ps fr : List Str} {F : NF} {f : Addr} {k : Nat} {sp : LSp} (S : NScope N ps fr F.scope) (hb : ∀ (doc pm ctv : Value) (us : List Value), us.length = ps.length → bindArgs (F.fd doc pm ctv) ⟨us, []⟩ = pure (ps.zip us))
    (len : ∀ cs as Ω P, sp cs as Ω P → as.length = ps.length)
    (hbody : ∀ (A : Around) (outer : List Env) (s : Shared) (H : Hp) (E : XK), Room k (A.deeper (envF F f s.heap.objs.size)) →
      ∃ t, PSs (ncx CX0 P w K mg base N F f A outer s H E) F.body t ∧ ∀ cs as Ω P, sp cs as Ω P → SW K t (as.map some ++ ((cs.map fun d => some (Av.dat d)) ++ List.replicate (N.length - as.length - cs.length) none)) Ω { nx := fun _ Ω' => P (.dat .none) Ω', rt := P }) :
    NOk P w K mg base CX0 (k + 1) f F ps fr (spL K sp) := by
  refine nok_of S hb (fun ws vs H Q E h => ?_) (fun A outer s H vs ws Q E hr _ _ hl h => ?_)
  · obtain ⟨F0, Ω, as, P, cap, k0, va, ew, g, h, q⟩ := h
    exact va.length.trans (len _ _ _ _ h)
  · obtain ⟨t, ht, hs⟩ := hbody A outer s H E hr
    obtain ⟨F0, Ω, as, P, cap, k0, va, rfl, g, h, q⟩ := h
    refine ⟨t, ht, hs _ as Ω P h F0 _ H _ ⟨k0.fr, k0.st, ?_, k0.tb, k0.ob⟩ ⟨fun Γ' σ' Ω' H' hp k' => q _ _ _ _ hp k'.bare (.dat .non), fun a v Ω' H' hp k' hv => q _ _ _ _ hp k'.bare hv, fun _ _ _ _ z => z.elim, fun _ _ _ _ z => z.elim⟩⟩
    unfold startF
    rw [va.length, List.length_map, List.length_map]
    exact (Slots.ofAll va).app ((Slots.ofCap g).app (Slots.rep _))
end
/-- the tables, as the statement reads them -/
def tabsOf (K : PySem.W.Frag) [Tb K] : List NTab := (Tb.T (K := K)).map fun p => (p.1, fun _ _ => p.2)
section
variable {K : PySem.W.Frag} [Tb K] {Γ : List (Option Av)} {Ω : AH} {E : EndA} {P : Av → AH → Prop} {ta tc : TE} {t : TA} {i j : Nat} {f c' : Addr} {F : NF} {sp : LSp} {EX : XK} {cap : List (V × PyData)}
theorem tabsN_of {H : Hp} (h : Tabs (Tb.T (K := K)) H) : TabsN (tabsOf K) H := fun p hp => by
  obtain ⟨q, hq, rfl⟩ := List.mem_map.mp hp
  exact TabN.of (h q hq)
theorem tabs_of {H : Hp} (h : TabsN (tabsOf K) H) : Tabs (Tb.T (K := K)) H := fun p hp => TabN.to (h (p.1, fun _ _ => p.2) (List.mem_map.mpr ⟨p, hp, rfl⟩))
abbrev FnA (f : Addr) (F : NF) (cap : List (V × PyData)) : Av := .fn f [(f, FnO f F), (F.c, CodeO F.c F.qual)] cap
theorem s_ndef {mk : Addr → NF} (hc : ∀ c', (mk c').c = c') (h : ∀ f c', E.nx (Γ.set i (some (FnA f (mk c') []))) Ω) : SW K (tNdef (tabsOf K) i mk) Γ Ω E := fun F σ H D k e =>
  ⟨tabsN_of k.tb, fun f c' H1 x1 t1 nf ef ec => by
    have kl := k.ext x1 (tabs_of t1)
    have nf1 : Ω.Off f := k.off nf
    have nc1 : Ω.Off c' := by
      constructor
      · cases z : Ω c' with
        | none => rfl
        | some as =>
          obtain ⟨xs, e1, _⟩ := kl.st c' as z
          rw [ec] at e1
          cases e1
      · cases z : Ω.o c' with
        | none => rfl
        | some u =>
          obtain ⟨y, e1, e2⟩ := kl.ob c' u z
          rw [ec] at e1
          cases e1
          exact absurd rfl (e2.ncode _ _)
    refine e.nx _ _ _ _ (h f c') (kl.set (.fn (fun p m => ?_) fun c m => by cases m) i)
    rw [List.mem_cons, List.mem_singleton] at m
    rcases m with rfl | rfl
    · exact Fz_to nf1 ef fun q z => by cases z
    · show Fz Ω H1 (mk c').c = some (CodeO (mk c').c (mk c').qual)
      rw [hc c']
      exact Fz_to nc1 ec fun q z => by cases z⟩
theorem e_heldN (e : Γ[i]? = some (some (FnA f F cap))) (h : AW K t Γ Ω fun as Ω1 => sp (cap.map (·.2)) as Ω1 P) : EW K (tHeldN i f F (cap.map fun c => some c.1) (spL K sp) EX t) Γ Ω P := fun F0 σ H Q k q => by
  obtain ⟨v, ev, hv⟩ := k.val e
  cases hv with
  | fn ho hg =>
    have m1 : (f, FnO f F) ∈ [(f, FnO f F), (F.c, CodeO F.c F.qual)] := List.mem_cons_self ..
    have m2 : (F.c, CodeO F.c F.qual) ∈ [(f, FnO f F), (F.c, CodeO F.c F.qual)] := List.mem_cons_of_mem _ (List.mem_cons_self ..)
    refine ⟨ev, Fz_le _ _ (ho _ m1), h (Fz Ω H) σ H _ k.re fun as vs Ω1 H1 h1 k1 v1 => ?_⟩
    exact ⟨Fz_le _ _ (k1.fr _ _ (ho _ m1)), Fz_le _ _ (k1.fr _ _ (ho _ m2)), Fz Ω1 H1, Ω1, as, P, cap, k1.bare.re, v1, rfl, fun c m => (hg c m).same k1.fr, h1, fun a v Ω' H' hp k' hv => q a v Ω' H' hp ((k1.anchor k.fr).back k') hv⟩
/-- g(a, n): n is the def in slot i, which holds two names of the running frame -/
theorem e_callN2 {sp : CSp} {mk : Addr → NF} {ja jb : Nat} {da db : PyData} (e : Γ[i]? = some (some (FnA f (mk c') []))) (ea : Γ[ja]? = some (some (.dat da))) (eb : Γ[jb]? = some (some (.dat db)))
    (h : EW K ta Γ Ω fun a Ω1 => ∀ sa sb, sp f c' [(sa, da), (sb, db)] [a, FnA f (mk c') [(sa, da), (sb, db)]] Ω1 P) :
    EW K (tCallC [ja, jb] (spCl K sp) EX (tCons ta (tCons (tVar i) tNil))) Γ Ω P := fun F σ H Q k r =>
  h F σ H _ k fun a v Ω1 H1 h1 k1 v1 => by
    obtain ⟨u, eu, hu⟩ := k1.val e
    obtain ⟨sa, esa, hsa⟩ := k1.val ea
    obtain ⟨sb, esb, hsb⟩ := k1.val eb
    cases hu with
    | fn ho hg =>
      cases hsa with | dat hsa => cases hsb with | dat hsb =>
        refine ⟨_, eu, f, c', Fz Ω1 H1, Ω1, _, P, [(sa, da), (sb, db)], k1.bare.re, .cons v1 (.cons (.fn ho fun c m => ?_) .nil), ?_, h1 sa sb, fun a v Ω' H' hp k' hv => r a v Ω' H' hp (k1.back k') hv⟩
        · rw [List.mem_cons, List.mem_singleton] at m
          rcases m with rfl | rfl
          · exact hsa
          · exact hsb
        · show [slotAt σ ja, slotAt σ jb] = [some sa, some sb]
          rw [slotAt_of esa, slotAt_of esb]
end
end Dat

set_option Elab.async false
set_option linter.all false
set_option maxRecDepth 100000
set_option maxHeartbeats 1000000
/-! zip of two tuples that need not be as long as each other -/
namespace Dat
open PySem PySem.Spec PyProof.Rows L2
def zipM (ds es : List PyData) : List Av := (List.zip ds es).map fun p => .dat (.tuple [p.1, p.2])
section
variable {K : PySem.W.Frag} [Tb K] {Γ : List (Option Av)} {Ω : AH} {tl : TA} {ds es : List PyData}
theorem walk_zipM {F : Hp} {a b : Addr} {xs ys : List V} (h : SqT K F a xs) (g : DqAll K F xs ds) (h2 : SqT K F b ys) (g2 : DqAll K F ys es) : WalkA K F (RZ.ItzT K a b) (zipM ds es) := by
  constructor
  · intro Ω H k i c e
    unfold zipM at e
    rw [List.getElem?_map] at e
    obtain ⟨p, hp, rfl⟩ := Option.map_eq_some_iff.mp e
    obtain ⟨d1, d2⟩ := p
    obtain ⟨h1', h2'⟩ := List.getElem?_zip_eq_some.mp hp
    obtain ⟨l1, e1⟩ := List.getElem?_eq_some_iff.mp h1'
    obtain ⟨l2, e2⟩ := List.getElem?_eq_some_iff.mp h2'
    obtain ⟨v, ev, hv⟩ := getD_dq g l1
    obtain ⟨u, eu, hu⟩ := getD_dq g2 l2
    have w1 : ds.getD i .none = d1 := by rw [List.getD_eq_getElem?_getD, h1']; rfl
    have w2 : es.getD i .none = d2 := by rw [List.getD_eq_getElem?_getD, h2']; rfl
    rw [w1] at hv
    rw [w2] at hu
    refine ⟨⟨xs, ys, v, u, sqT_same (k.fr.trans Fz_le) h, sqT_same (k.fr.trans Fz_le) h2, ev, eu⟩, fun x H' hy => ?_⟩
    obtain ⟨T, x2, y2, rfl, nT, rfl, f, f2⟩ := hy
    have t1 := f xs (sqT_same (k.fr.trans Fz_le) h)
    have t2 := f2 ys (sqT_same (k.fr.trans Fz_le) h2)
    rw [ev] at t1
    rw [eu] at t2
    cases t1
    cases t2
    exact ⟨same_new nT, .dat (tup_new k nT (.cons (hv.same k.fr) (.cons (hu.same k.fr) .nil)))⟩
  · intro Ω H k
    refine ⟨xs, ys, sqT_same (k.fr.trans Fz_le) h, sqT_same (k.fr.trans Fz_le) h2, ?_⟩
    rw [g.length, g2.length]
    unfold zipM
    rw [List.length_map, List.length_zip]
    omega
theorem i_zipM {P : List Av → AH → Prop} (h : AW K tl Γ Ω fun as Ω1 => ∃ ds es, as = [.dat (.tuple ds), .dat (.tuple es)] ∧ P (zipM ds es) Ω1) : IW K (RZ.iZipA K tl) Γ Ω P := fun F σ H R k q =>
  h F σ H _ k fun as vs Ω1 H1 ⟨ds, es, e, hp⟩ k1 v1 => by
    subst e
    cases v1 with | cons va v1 => cases v1 with | cons vb v1 => cases v1; cases va with | dat va => cases vb with | dat vb => cases va with | tup hs g => cases vb with | tup hs2 g2 =>
      exact ⟨_, _, _, _, rfl, .inr ⟨sqT_same Fz_le hs, sqT_same Fz_le hs2, q _ _ _ _ hp k1 (walk_zipM hs g hs2 g2)⟩⟩
theorem VAll.rev {F : Hp} : ∀ {as : List Av} {vs : List V}, VAll K F as vs → VAll K F as.reverse vs.reverse
  | _, _, .nil => .nil
  | _, _, .cons h g => by
    rw [List.reverse_cons, List.reverse_cons]
    exact VAll.app (VAll.rev g) (.cons h .nil)
theorem e_revP {te : TE} {P : Av → AH → Prop} (h : EW K te Γ Ω fun a Ω1 => ∃ p as, a = .ptr p ∧ Ω1 p = some as ∧ ∀ q, Ω1.Off q → P (.ptr q) (put Ω1 q as.reverse)) : EW K (tRevL K te) Γ Ω P := fun F σ H Q k q =>
  h F σ H _ k fun a v Ω1 H1 ⟨p, as, ea, e, hp⟩ k1 v1 => by
    subst ea
    cases v1
    obtain ⟨ys, h1, h2⟩ := k1.st p as e
    exact ⟨p, ys, rfl, SqL.of h1, fun u nu => q _ _ _ _ (hp u (k1.off nu)) (k1.new nu h2.rev) (.ptr u)⟩
theorem hu9 {A : Around} {k : Nat} (hr : Room k A) : A.units + 9 < cLine := by
  have := hu100 hr
  omega
end
end Dat

set_option Elab.async false
set_option linter.all false
set_option maxRecDepth 100000
set_option maxHeartbeats 1000000
/-! x in l, x not in l: data of any depth in a list that changes -/
namespace Dat
open PySem PySem.Spec PyProof.Rows L2 Dkd
section
variable {K : PySem.W.Frag} [Tb K] {Ω : AH} {P : Av → AH → Prop} {d : PyData} {ds : List PyData} {p : Addr}
theorem r_inDP (o : Ω p = some (ds.map .dat)) (sd : SeqAt.shaped d = true) (se : SeqAt.shaped (.list ds) = true) (h : P (.dat (.bool (ds.any fun z => PyData.eqv z d))) Ω) : R2W K (rInD K) (.dat d) (.ptr p) Ω P := fun F H x y Q k hx hy q => by
  cases hx with | dat hx =>
    cases hy
    obtain ⟨xs, h1, h2⟩ := k.st p _ o
    exact ⟨d, ds, (hx.same Fz_le).dp (shaped_lay sd), (Dq.lst h1 (h2.dats.same Fz_le)).dp (shaped_lay se), sd, se, q _ _ _ _ h k (.dat (.bl _))⟩
theorem r_ninDP (o : Ω p = some (ds.map .dat)) (sd : SeqAt.shaped d = true) (se : SeqAt.shaped (.list ds) = true) (h : P (.dat (.bool (!(ds.any fun z => PyData.eqv z d)))) Ω) : R2W K (rNotInD K) (.dat d) (.ptr p) Ω P := fun F H x y Q k hx hy q => by
  cases hx with | dat hx =>
    cases hy
    obtain ⟨xs, h1, h2⟩ := k.st p _ o
    exact ⟨d, ds, (hx.same Fz_le).dp (shaped_lay sd), (Dq.lst h1 (h2.dats.same Fz_le)).dp (shaped_lay se), sd, se, q _ _ _ _ h k (.dat (.bl _))⟩
theorem op_niD {X : Cx} (hK : X.K = K) (hu : X.A.units + 100 < cLine) : OpR X (compareOp .NotIn) (rNotInD K) := by subst hK; exact op_notInD (by omega)
theorem op_iD {X : Cx} (hK : X.K = K) (hu : X.A.units + 100 < cLine) : OpR X (compareOp .In) (rInD K) := by subst hK; exact op_inD (by omega)
theorem pe_dgetQ {X : Cx} {K : PySem.W.Frag} [Tb K] {w : World} {o i : Expr} {td ty : TE} {pos : Pos} (hK : X.K = K) (hw : X.w = w) (hu : X.A.units + 9 < cLine) (ho : PE X o td) (hi : PE X i ty) (hs : NoSl i) : PE X (.Subscript o i pos) (tDGetE K w td ty) := by
  subst hK hw
  exact pe_dgetE hu ho hi hs
end
end Dat

set_option Elab.async false
set_option linter.all false
set_option maxRecDepth 100000
set_option maxHeartbeats 1000000
/-! l.pop(i); l.index(x) for data of any depth -/
namespace Dat
open PySem PySem.Spec PyProof.Rows L2
section
variable {K : PySem.W.Frag} [Tb K] {Ω : AH} {Γ : List (Option Av)} {ta : TE} {tl : TA}
theorem VAll.eras {F : Hp} : ∀ {as : List Av} {vs : List V} (i : Nat), VAll K F as vs → VAll K F (as.eraseIdx i) (vs.eraseIdx i)
  | _, _, _, .nil => .nil
  | _, _, 0, .cons _ g => g
  | _, _, i + 1, .cons h g => .cons h (VAll.eras i g)
theorem e_popAt {P : Av → AH → Prop} (h : EW K ta Γ Ω fun a Ω1 => ∃ p, a = .ptr p ∧ (∃ bs, Ω1 p = some bs) ∧ AW K tl Γ Ω1 fun cs Ω2 => ∃ (i : Nat) (b : Av) (as : List Av), cs = [.dat (.int ((i : Nat) : Int))] ∧ Ω2 p = some as ∧ as[i]? = some b ∧ i < 2 ^ 62 ∧ P b (put Ω2 p (as.eraseIdx i))) : EW K (tBM K "list" rPopAt ta tl) Γ Ω P := fun F σ H Q k q =>
  h F σ H _ k fun a v Ω1 H1 ⟨p, ea, ⟨bs, eb⟩, h1⟩ k1 v1 => by
    subst ea
    cases v1
    obtain ⟨zs, hz, _⟩ := k1.st p bs eb
    refine ⟨.inl ⟨rfl, _, SqL.of hz⟩, h1 F σ H1 _ k1 fun cs vs Ω2 H2 ⟨i, b, as, ec, e2, ei, hi, hp⟩ k2 v2 => ?_⟩
    subst ec
    cases v2 with | cons vb v2 =>
      cases v2
      cases vb with | dat vb =>
      cases vb
      obtain ⟨xs, hx, g⟩ := k2.st p _ e2
      obtain ⟨y, ey, hy⟩ := g.get ei
      have li := (List.getElem?_eq_some_iff.mp ey).1
      refine ⟨p, _, ((i : Nat) : Int), i, y, rfl, rfl, hx, by omega, by omega, ?_, ey, ?_⟩
      · unfold seqIndex?
        have h0 : ¬ ((i : Nat) : Int) < 0 := by omega
        rw [if_neg h0]
        have h1 : (0 ≤ ((i : Nat) : Int)) := by omega
        have h2 : ((i : Nat) : Int) < ((xs.length : Nat) : Int) := by omega
        simp [li]
      · have k3 := k2.put e2 (g.eras i)
        have e3 : Fz (put Ω2 p (as.eraseIdx i)) (upd H2 p (.lst (xs.eraseIdx i))) = Fz Ω2 H2 := Fz_put e2
        exact q _ _ _ _ hp k3 (by show VOk K (Fz _ (upd H2 p (.lst (xs.eraseIdx i)))) b y; rw [e3]; exact hy)
/-- the list one that may change -/
theorem e_idxDP {P : Av → AH → Prop} (h : EW K ta Γ Ω fun a Ω1 => ∃ p bs, a = .ptr p ∧ Ω1 p = some bs ∧ AW K tl Γ Ω1 fun cs Ω2 => ∃ ds d e j, Ω2 p = some (ds.map .dat) ∧ SeqAt.shaped (.list ds) = true ∧ cs = [.dat d] ∧ SeqAt.shaped d = true ∧ ds[j]? = some e ∧ PyData.eqv e d = true ∧ (∀ m e', m < j → ds[m]? = some e' → PyData.eqv e' d = false) ∧ P (.dat (.int (j : Nat))) Ω2) : EW K (tBM K "list" (rIndexD K) ta tl) Γ Ω P := fun F σ H Q k q =>
  h F σ H _ k fun a v Ω1 H1 ⟨p, bs, ea, eb, h1⟩ k1 v1 => by
    subst ea
    cases v1
    obtain ⟨zs, hz, _⟩ := k1.st p bs eb
    refine ⟨.inl ⟨rfl, _, SqL.of hz⟩, h1 F σ H1 _ k1 fun cs vs Ω2 H2 ⟨ds, d, e, j, e2, sl, ec, sd, ej, ev, no, hp⟩ k2 v2 => ?_⟩
    subst ec
    cases v2 with | cons vb v2 =>
      cases v2
      cases vb with | dat vb =>
      obtain ⟨xs, hx, g⟩ := k2.st p _ e2
      exact ⟨p, _, d, ds, j, e, rfl, rfl, (Dq.lst hx (g.dats.same Fz_le)).dp (shaped_lay sl), (vb.same Fz_le).dp (shaped_lay sd), sl, sd, ej, ev, no, q _ _ _ _ hp k2 (.dat (.int _))⟩
end
end Dat

set_option Elab.async false
set_option linter.all false
set_option maxRecDepth 100000
set_option maxHeartbeats 2000000
/-! next of zip(a, b), a and b tuples, where the pair given out before may still be held; enumerate over it -/
namespace Enz
open PySem PySem.Spec PyProof.Rows L2 RZ
abbrev ZF (h : Heap) (z TI TO : Addr) (f0 : Value) (b : Bool) : Prop :=
  h.get? z = some { cls := .type "zip", dict := none, data := .fields #[f0, .bool b, .bool false, .ref TI, .ref TO], slots := #[] }
abbrev F0 (f0 : Value) : Prop := f0 = .none ∨ ∃ T : Addr, f0 = rawInt T
/-- the two iterators and what they go over, beside the heap g as it was -/
structure Zr (g h : Heap) (z TO i1 i2 l1 l2 : Addr) (xs ys : Array Value) (k1 k2 : Nat) : Prop where
  a1 : h.IsTupleIter i1 l1 k1
  a2 : h.IsTupleIter i2 l2 k2
  t1 : h.IsTuple l1 xs
  t2 : h.IsTuple l2 ys
  sz : h.objs.size = g.objs.size
  kp : ∀ c o, c ≠ z → c ≠ TO → c ≠ i1 → c ≠ i2 → g.get? c = some o → h.get? c = some o
section
variable {g h h' : Heap} {z TI TO i1 i2 l1 l2 : Addr} {xs ys : Array Value} {k1 k2 : Nat}
theorem Zr.atz (q : Zr g h z TO i1 i2 l1 l2 xs ys k1 k2) (D : ZipApart z TI TO i1 i2 l1 l2) (sb : Heap.SameBut z h h') : Zr g h' z TO i1 i2 l1 l2 xs ys k1 k2 :=
  ⟨q.a1.extBut sb.extBut D.i1z, q.a2.extBut sb.extBut D.i2z, q.t1.extBut sb.extBut D.l1z, q.t2.extBut sb.extBut D.l2z, sb.1.trans q.sz, fun c o n1 n2 n3 n4 e => sb.extBut _ _ n1 (q.kp c o n1 n2 n3 n4 e)⟩
theorem Zr.atT (q : Zr g h z TO i1 i2 l1 l2 xs ys k1 k2) (D : ZipApart z TI TO i1 i2 l1 l2) (sb : Heap.SameBut TO h h') : Zr g h' z TO i1 i2 l1 l2 xs ys k1 k2 :=
  ⟨q.a1.extBut sb.extBut D.TOi1.symm, q.a2.extBut sb.extBut D.TOi2.symm, q.t1.extBut sb.extBut D.l1TO, q.t2.extBut sb.extBut D.l2TO, sb.1.trans q.sz, fun c o n1 n2 n3 n4 e => sb.extBut _ _ n2 (q.kp c o n1 n2 n3 n4 e)⟩
theorem Zr.at1 {k : Nat} (q : Zr g h z TO i1 i2 l1 l2 xs ys k1 k2) (D : ZipApart z TI TO i1 i2 l1 l2) (sb : Heap.SameBut i1 h h') (a : h'.IsTupleIter i1 l1 k) : Zr g h' z TO i1 i2 l1 l2 xs ys k k2 :=
  ⟨a, q.a2.extBut sb.extBut D.i12.symm, q.t1.extBut sb.extBut D.l1i1, q.t2.extBut sb.extBut D.l2i1, sb.1.trans q.sz, fun c o n1 n2 n3 n4 e => sb.extBut _ _ n3 (q.kp c o n1 n2 n3 n4 e)⟩
theorem Zr.at2 {k : Nat} (q : Zr g h z TO i1 i2 l1 l2 xs ys k1 k2) (D : ZipApart z TI TO i1 i2 l1 l2) (sb : Heap.SameBut i2 h h') (a : h'.IsTupleIter i2 l2 k) : Zr g h' z TO i1 i2 l1 l2 xs ys k1 k :=
  ⟨q.a1.extBut sb.extBut D.i12, a, q.t1.extBut sb.extBut D.l1i2, q.t2.extBut sb.extBut D.l2i2, sb.1.trans q.sz, fun c o n1 n2 n3 n4 e => sb.extBut _ _ n4 (q.kp c o n1 n2 n3 n4 e)⟩
end
section
variable {prog : Program} {w : World} {A : Around} {E : Value → Shared → Prop} {s : Shared}
theorem alive_any {a : Addr} {Q : Option Obj → Shared → Prop} (h : Q (s.heap.get? a) s) : wpAny (model prog w) A (loadIfAlive a) Q E s := fun _ _ _ => h
/-- whether the tuple may be used again: both answers -/
theorem own_free {z TI TO : Addr} {f0 : Value} {b : Bool} {Q : Bool → Shared → Prop} (hz : ZF s.heap z TI TO f0 b) (hf : F0 f0) (h1 : Q true s)
    (h2 : ∀ h', ZF h' z TI TO f0 true → Heap.SameBut z s.heap h' → Q false { s with heap := h' }) : wpAny (model prog w) A (Builtin.SmallTypes.ownedTupleIsFree (.ref z)) Q E s := by
  unfold Builtin.SmallTypes.ownedTupleIsFree
  refine wpAny_bind (wpAny_field hz rfl (x := f0) rfl ?_)
  rcases hf with rfl | ⟨T, rfl⟩
  · exact wpAny_pure h1
  · show wpAny _ _ (loadIfAlive ((T : Int).toNat) >>= _) _ _ _
    rw [Int.toNat_natCast]
    refine wpAny_bind (alive_any ?_)
    rcases s.heap.get? T with _ | o
    · exact wpAny_pure h1
    · refine wpAny_bind (wpAny_field hz rfl (x := .bool b) rfl ?_)
      rcases b with _ | _
      · exact wpAny_bind (wpAny_setField_rec hz (by simp) fun h₁ hz₁ hs₁ => wpAny_pure (h2 h₁ hz₁ hs₁))
      · exact wpAny_pure (h2 s.heap hz (Heap.SameBut.refl _ _))
/-- one draw from a tuple's iterator: both ends -/
theorem zdraw {i l : Addr} {k : Nat} {xs : Array Value} {Q : Value → Shared → Prop} (hh : A.handled = none) (a : s.heap.IsTupleIter i l k) (t : s.heap.IsTuple l xs)
    (hQ : ∀ x, xs[k]? = some x → ∀ h', h'.IsTupleIter i l (k + 1) → Heap.SameBut i s.heap h' → Q x { s with heap := h' })
    (hE : xs[k]? = none → ∀ h' e, Heap.ExtBut i s.heap h' → (∃ o, h'.get? e = some o ∧ o.cls = .type "StopIteration") → E (.ref e) { s with heap := h' }) : wpAny (model prog w) A (Builtin.SmallTypes.nextOf (.ref i)) Q E s := by
  rcases hx : xs[k]? with _ | x
  · exact nextOf_tuple_end hh a t hx (hE hx)
  · exact nextOf_tuple_item a t hx (hQ x hx)
theorem stop_ne {h : Heap} {z TI TO e : Addr} {f0 : Value} {b : Bool} (hz : ZF h z TI TO f0 b) (he : ∃ o, h.get? e = some o ∧ o.cls = .type "StopIteration") : e ≠ z := fun q => by
  obtain ⟨o, h1, h2⟩ := he
  rw [q, hz] at h1
  cases h1
  exact absurd (Value.type.inj h2) (by decide)
/-- what stands of such a zip -/
structure ZS (h : Heap) (z TI TO i1 i2 l1 l2 : Addr) (k : Nat) : Prop where
  zf : ∃ f0 b, ZF h z TI TO f0 b ∧ F0 f0
  ti : IsPair h TI (.ref i1) (.ref i2)
  to : ∃ a b, IsPair h TO a b
  a1 : h.IsTupleIter i1 l1 k
  a2 : h.IsTupleIter i2 l2 k
theorem ZS.at {h h' : Heap} {z TI TO i1 i2 l1 l2 : Addr} {k : Nat} (q : ZS h z TI TO i1 i2 l1 l2 k) (e : ∀ b ∈ [z, TI, TO, i1, i2], ∀ o, h.get? b = some o → h'.get? b = some o) : ZS h' z TI TO i1 i2 l1 l2 k := by
  obtain ⟨⟨f0, b, hz, hf⟩, hTI, ⟨x, y, hTO⟩, h1, h2⟩ := q
  exact ⟨⟨f0, b, e z (by simp) _ hz, hf⟩, e TI (by simp) _ hTI, ⟨x, y, e TO (by simp) _ hTO⟩, h1.at fun o q => e i1 (by simp) o q, h2.at fun o q => e i2 (by simp) o q⟩
/-- how a turn ends -/
structure ZEnd (g h : Heap) (z TI TO i1 i2 l1 l2 : Addr) (k : Nat) (x y : Value) : Prop where
  st : ZS h z TI TO i1 i2 l1 l2 (k + 1)
  pr : IsPair h g.objs.size x y
  sz : h.objs.size = g.objs.size + 1
  kp : ∀ c o, c ≠ z → c ≠ TO → c ≠ i1 → c ≠ i2 → g.get? c = some o → h.get? c = some o
theorem zip_turn {z TI TO i1 i2 l1 l2 : Addr} {k : Nat} {xs ys : Array Value} {Q : Value → Shared → Prop} (hh : A.handled = none) (D : ZipApart z TI TO i1 i2 l1 l2) (q : ZS s.heap z TI TO i1 i2 l1 l2 k) (hl1 : s.heap.IsTuple l1 xs) (hl2 : s.heap.IsTuple l2 ys)
    (hQ : ∀ x y, xs[k]? = some x → ys[k]? = some y → ∀ h', ZEnd s.heap h' z TI TO i1 i2 l1 l2 k x y → Q (.ref s.heap.objs.size) { s with heap := h' })
    (hE : xs[k]? = none ∨ ys[k]? = none → ∀ h' e, (∀ c o, c ≠ z → c ≠ TO → c ≠ i1 → c ≠ i2 → s.heap.get? c = some o → h'.get? c = some o) → (∃ o, h'.get? e = some o ∧ o.cls = .type "StopIteration") → E (.ref e) { s with heap := h' }) :
    wpAny (model prog w) A (Builtin.«zip.__next__» ⟨[.ref z], []⟩) (fun fin s' => ∃ v, fin = .done (.ret v) ∧ Q v s') E s := by
  obtain ⟨⟨f0, bb, hz, hf⟩, hTI, ⟨a, b, hTO⟩, h1, h2⟩ := q
  have r0 : Zr s.heap s.heap z TO i1 i2 l1 l2 xs ys k k := ⟨h1, h2, hl1, hl2, rfl, fun _ _ _ _ _ _ e => e⟩
  show wpAny _ _ (field (.ref z) 2 >>= _) _ _ _
  refine wpAny_bind (wpAny_field hz rfl (x := .bool false) rfl ?_)
  show wpAny _ _ (field (.ref z) 3 >>= _) _ _ _
  refine wpAny_bind (wpAny_field hz rfl (x := .ref TI) rfl (wpAny_bind (wpAny_seqItems hTI rfl ?_)))
  show wpAny _ _ (Builtin.SmallTypes.ownedTupleIsFree (.ref z) >>= _) _ _ _
  refine wpAny_bind (own_free hz hf ?_ fun h₁ hz₁ hs₁ => ?_)
  · -- the tuple is filled anew, and a copy given out
    simp only [if_true]
    refine wpAny_bind (wpAny_rule (wpAny_bind (wpAny_field hz rfl (x := .ref TO) rfl (wpAny_bind (wpAny_setField_rec hz (by simp) fun h₁ hz₁ hs₁ => wpAny_bind ?_)))))
    replace hz₁ : ZF h₁ z TI TO .ellipsis bb := hz₁
    have r1 := r0.atz D hs₁
    have o1 : IsPair h₁ TO a b := hs₁.extBut _ _ D.TOz hTO
    -- one place of it
    have end1 : ∀ (h e h₀), ZF h₀ z TI TO .ellipsis bb → (∀ c o, c ≠ z → c ≠ TO → c ≠ i1 → c ≠ i2 → s.heap.get? c = some o → h.get? c = some o) → ZF h z TI TO .ellipsis bb → (∃ o, h.get? e = some o ∧ o.cls = .type "StopIteration") → xs[k]? = none ∨ ys[k]? = none →
        wpAny (model prog w) A (setField (.ref z) 0 .none) (fun _ s' => E (.ref e) s') E { s with heap := h } := fun h e _ _ kp hz he hn =>
      wpAny_setField_rec hz (by simp) fun h3 _ hs3 => hE hn h3 e (fun c o n1 n2 n3 n4 y => hs3.extBut _ _ n1 (kp c o n1 n2 n3 n4 y)) (let ⟨o, y1, y2⟩ := he; ⟨o, hs3.extBut _ _ (stop_ne hz he) y1, y2⟩)
    simp only [List.zipIdx_cons, List.zipIdx_nil, List.forIn_cons, List.forIn_nil]
    refine wpAny_bind (wpAny_bind (wpAny_onRaise ?_))
    show wpAny _ _ (Builtin.SmallTypes.nextOf (.ref i1) >>= _) _ _ _
    refine wpAny_bind (zdraw (s := { s with heap := h₁ }) hh r1.a1 r1.t1 (fun x hx h₂ a₂ hs₂ => wpAny_pure ?_) fun hx h₂ e hk₂ he => ?_)
    · have r2 := r1.at1 D hs₂ a₂
      have o2 : IsPair h₂ TO a b := hs₂.extBut _ _ D.TOi1 o1
      have z2 : ZF h₂ z TI TO .ellipsis bb := hs₂.extBut _ _ D.i1z.symm hz₁
      refine wpAny_bind (wpAny_seqItems o2 rfl (wpAny_bind (wpAny_updateSeq_pair o2 fun h₃ o3 hs₃ => wpAny_bind (wpAny_letGo (wpAny_pure ?_)))))
      have r3 := r2.atT D hs₃
      replace o3 : IsPair h₃ TO x b := o3
      have z3 : ZF h₃ z TI TO .ellipsis bb := hs₃.extBut _ _ D.TOz.symm z2
      refine wpAny_bind (wpAny_bind (wpAny_onRaise ?_))
      show wpAny _ _ (Builtin.SmallTypes.nextOf (.ref i2) >>= _) _ _ _
      refine wpAny_bind (zdraw (s := { s with heap := h₃ }) hh r3.a2 r3.t2 (fun y hy h₄ a₄ hs₄ => wpAny_pure ?_) fun hy h₄ e hk₄ he => ?_)
      · have r4 := r3.at2 D hs₄ a₄
        have o4 : IsPair h₄ TO x b := hs₄.extBut _ _ D.TOi2 o3
        have z4 : ZF h₄ z TI TO .ellipsis bb := hs₄.extBut _ _ D.i2z.symm z3
        refine wpAny_bind (wpAny_seqItems o4 rfl (wpAny_bind (wpAny_updateSeq_pair o4 fun h₅ o5 hs₅ => wpAny_bind (wpAny_letGo (wpAny_pure (wpAny_pure ?_))))))
        have r5 := r4.atT D hs₅
        replace o5 : IsPair h₅ TO x y := o5
        have z5 : ZF h₅ z TI TO .ellipsis bb := hs₅.extBut _ _ D.TOz.symm z4
        refine wpAny_bind (wpAny_seqItems o5 rfl (wpAny_bind (wpAny_newTuple ?_)))
        have z6 : ZF (h₅.push { cls := .type "tuple", data := .seq #[x, y] }) z TI TO .ellipsis bb := Heap.get?_push_of_some _ z5
        show wpAny _ _ (Builtin.SmallTypes.ownedTupleHandOut (.ref z) (.ref h₅.objs.size) >>= _) _ _ _
        unfold Builtin.SmallTypes.ownedTupleHandOut
        refine wpAny_bind (wpAny_bind (wpAny_setField_rec z6 (by simp) fun h₇ hz₇ hs₇ => ?_))
        replace hz₇ : ZF h₇ z TI TO (rawInt h₅.objs.size) bb := hz₇
        refine wpAny_setField_rec hz₇ (by simp) fun h₈ hz₈ hs₈ => ?_
        replace hz₈ : ZF h₈ z TI TO (rawInt h₅.objs.size) false := hz₈
        have up : ∀ c o, c ≠ z → h₅.get? c = some o → h₈.get? c = some o := fun c o n e => hs₈.extBut _ _ n (hs₇.extBut _ _ n (Heap.get?_push_of_some _ e))
        have nz : h₅.objs.size ≠ z := Nat.ne_of_gt (Heap.lt_size z5)
        have p8 : IsPair h₈ h₅.objs.size x y := hs₈.extBut _ _ nz (hs₇.extBut _ _ nz (Heap.get?_push_size _ rfl))
        have s8 : h₈.objs.size = h₅.objs.size + 1 := by rw [hs₈.1, hs₇.1, Heap.size_push]
        refine wpAny_pure ⟨.ref h₅.objs.size, rfl, ?_⟩
        rw [r5.sz] at hz₈ p8 s8 ⊢
        exact hQ x y hx hy h₈ ⟨⟨⟨_, _, hz₈, .inr ⟨_, rfl⟩⟩, up _ _ D.TIz (r5.kp _ _ D.TIz D.TITO D.TIi1 D.TIi2 hTI), ⟨_, _, up _ _ D.TOz o5⟩, r5.a1.at fun o e => up _ o D.i1z e, r5.a2.at fun o e => up _ o D.i2z e⟩, p8, s8, fun c o n1 n2 n3 n4 e => up c o n1 (r5.kp c o n1 n2 n3 n4 e)⟩
      · exact end1 h₄ e h₃ z3 (fun c o n1 n2 n3 n4 y => hk₄ _ _ n4 (r3.kp c o n1 n2 n3 n4 y)) (hk₄ _ _ D.i2z.symm z3) he (.inr hy)
    · exact end1 h₂ e h₁ hz₁ (fun c o n1 n2 n3 n4 y => hk₂ _ _ n3 (r1.kp c o n1 n2 n3 n4 y)) (hk₂ _ _ D.i1z.symm hz₁) he (.inl hx)
  · -- the tuple is still held: a new one
    have r1 := r0.atz D hs₁
    simp only [Bool.false_eq_true, if_false, ← Array.forIn_toList, List.forIn_cons, List.forIn_nil]
    refine wpAny_bind (wpAny_bind (wpAny_bind (wpAny_holding ?_)))
    show wpAny _ _ (Builtin.SmallTypes.nextOf (.ref i1) >>= _) _ _ _
    refine wpAny_bind (zdraw (s := { s with heap := h₁ }) hh r1.a1 r1.t1 (fun x hx h₂ a₂ hs₂ => wpAny_pure (wpAny_pure (wpAny_bind (wpAny_bind (wpAny_holding ?_))))) fun hx h₂ e hk₂ he => hE (.inl hx) h₂ e (fun c o n1 n2 n3 n4 y => hk₂ _ _ n3 (r1.kp c o n1 n2 n3 n4 y)) he)
    have r2 := r1.at1 D hs₂ a₂
    show wpAny _ _ (Builtin.SmallTypes.nextOf (.ref i2) >>= _) _ _ _
    refine wpAny_bind (zdraw (s := { s with heap := h₂ }) hh r2.a2 r2.t2 (fun y hy h₃ a₃ hs₃ => wpAny_pure (wpAny_pure (wpAny_pure ?_))) fun hy h₃ e hk₃ he => hE (.inr hy) h₃ e (fun c o n1 n2 n3 n4 y => hk₃ _ _ n4 (r2.kp c o n1 n2 n3 n4 y)) he)
    have r3 := r2.at2 D hs₃ a₃
    have z3 : ZF h₃ z TI TO f0 true := hs₃.extBut _ _ D.i2z.symm (hs₂.extBut _ _ D.i1z.symm hz₁)
    have o3 : IsPair h₃ TO a b := hs₃.extBut _ _ D.TOi2 (hs₂.extBut _ _ D.TOi1 (hs₁.extBut _ _ D.TOz hTO))
    show wpAny _ _ (newTuple [x, y] >>= _) _ _ _
    refine wpAny_bind (wpAny_newTuple (wpAny_pure ⟨.ref h₃.objs.size, rfl, ?_⟩))
    have p4 : IsPair (h₃.push { cls := .type "tuple", data := .seq #[x, y] }) h₃.objs.size x y := Heap.get?_push_size _ rfl
    have s4 : (h₃.push { cls := .type "tuple", data := .seq #[x, y] }).objs.size = h₃.objs.size + 1 := Heap.size_push ..
    rw [r3.sz] at p4 s4 ⊢
    exact hQ x y hx hy _ ⟨⟨⟨_, _, Heap.get?_push_of_some _ z3, hf⟩, Heap.get?_push_of_some _ (r3.kp _ _ D.TIz D.TITO D.TIi1 D.TIi2 hTI), ⟨_, _, Heap.get?_push_of_some _ o3⟩, r3.a1.at fun o e => Heap.get?_push_of_some _ e, r3.a2.at fun o e => Heap.get?_push_of_some _ e⟩, p4, s4, fun c o n1 n2 n3 n4 e => Heap.get?_push_of_some _ (r3.kp c o n1 n2 n3 n4 e)⟩
theorem nextOf_zip {z TI TO i1 i2 l1 l2 : Addr} {k : Nat} {xs ys : Array Value} {Q : Value → Shared → Prop} (hh : A.handled = none) (D : ZipApart z TI TO i1 i2 l1 l2) (q : ZS s.heap z TI TO i1 i2 l1 l2 k) (hl1 : s.heap.IsTuple l1 xs) (hl2 : s.heap.IsTuple l2 ys)
    (hQ : ∀ x y, xs[k]? = some x → ys[k]? = some y → ∀ h', ZEnd s.heap h' z TI TO i1 i2 l1 l2 k x y → Q (.ref s.heap.objs.size) { s with heap := h' })
    (hE : xs[k]? = none ∨ ys[k]? = none → ∀ h' e, (∀ c o, c ≠ z → c ≠ TO → c ≠ i1 → c ≠ i2 → s.heap.get? c = some o → h'.get? c = some o) → (∃ o, h'.get? e = some o ∧ o.cls = .type "StopIteration") → E (.ref e) { s with heap := h' }) :
    wpAny (model prog w) A (Builtin.SmallTypes.nextOf (.ref z)) Q E s := by
  have hT : s.TypeIs (.ref z) "zip" := let ⟨_, _, hz, _⟩ := q.zf; ⟨_, hz, rfl⟩
  unfold Builtin.SmallTypes.nextOf
  exact wpAny_bind (wpAny_callSpecial?_slot (name := Str.ofString "__next__") hT F.slot_zip_next
    (wpAny_call_entry F.slot_zip_next hT F.entry_zip_next (zip_turn (A := A.in1) (by simp [hh]) D q hl1 hl2 (fun x y hx hy h' ze => wpAny_pure (hQ x y hx hy h' ze)) hE) (F.args_zip_next_1 _)))
/-- enumerate's next over any iterator: what that one's next does, and a new pair behind it -/
theorem enum_turn {e it : Addr} {n : Int} {old : Value} {Q : Value → Shared → Prop} (he : IsEnum s.heap e it n old)
    (hd : wpAny (model prog w) A (Builtin.SmallTypes.nextOf (.ref it)) (fun x s1 => IsEnum s1.heap e it n old ∧ ∀ h', IsEnumOut h' e it (n + 1) x s1.heap.objs.size → h'.get? s1.heap.objs.size = some { cls := .type "tuple", data := .seq #[.int n s1.toks, x] } →
      h'.objs.size = s1.heap.objs.size + 1 → (∀ b o, b ≠ e → s1.heap.get? b = some o → h'.get? b = some o) → Q (.ref s1.heap.objs.size) { s1 with heap := h', toks := s1.toks + 1 }) E s) :
    wpAny (model prog w) A (Builtin.«enumerate.__next__» ⟨[.ref e], []⟩) (fun fin s' => ∃ v, fin = .done (.ret v) ∧ Q v s') E s := by
  show wpAny _ _ (field (.ref e) 2 >>= _) _ _ _
  refine wpAny_bind (wpAny_field he rfl (x := .ref it) rfl (wpAny_bind (thn hd fun x s1 ⟨e1, fin⟩ => ?_)))
  obtain ⟨g, gs, dr, tk, os⟩ := s1
  replace e1 : IsEnum g e it n old := e1
  have le : e < g.objs.size := Heap.lt_size e1
  show wpAny _ _ (field (.ref e) 3 >>= _) _ _ ⟨g, gs, dr, tk, os⟩
  refine wpAny_bind (wpAny_field e1 rfl (x := rawInt n) rfl ?_)
  show wpAny _ _ (field (.ref e) 4 >>= _) _ _ _
  refine wpAny_bind (wpAny_field e1 rfl (x := .none) rfl ?_)
  show wpAny _ _ (mkInt n >>= _) _ _ _
  refine wpAny_bind (wpAny_mkInt ?_)
  show wpAny _ _ (setField (.ref e) 3 (rawInt (n + 1)) >>= _) _ _ _
  refine wpAny_bind (wpAny_setField_rec e1 (by simp) fun g2 e2 b2 => ?_)
  replace e2 : IsEnum g2 e it (n + 1) old := e2
  show wpAny _ _ (setField (.ref e) 4 .none >>= _) _ _ _
  refine wpAny_bind (wpAny_setField_rec e2 (by simp) fun g3 e3 b3 => ?_)
  replace e3 : IsEnum g3 e it (n + 1) old := e3
  show wpAny _ _ (newTuple [.int n tk, x] >>= _) _ _ _
  have s3 : g3.objs.size = g.objs.size := b3.1.trans b2.1
  have k3 : ∀ b o, b ≠ e → g.get? b = some o → g3.get? b = some o := fun b o nb y => b3.extBut _ _ nb (b2.extBut _ _ nb y)
  refine wpAny_bind (wpAny_newTuple ?_)
  have t4 : (g3.push { cls := .type "tuple", data := .seq #[.int n tk, x] }).get? g3.objs.size = some { cls := .type "tuple", data := .seq #[.int n tk, x] } := Heap.get?_push_size _ rfl
  have s4 : (g3.push { cls := .type "tuple", data := .seq #[.int n tk, x] }).objs.size = g3.objs.size + 1 := Heap.size_push ..
  have e4 : IsEnum (g3.push { cls := .type "tuple", data := .seq #[.int n tk, x] }) e it (n + 1) old := Heap.get?_push_of_some _ e3
  have k4 : ∀ b o, b ≠ e → g.get? b = some o → (g3.push { cls := .type "tuple", data := .seq #[.int n tk, x] }).get? b = some o := fun b o nb y => Heap.get?_push_of_some _ (k3 b o nb y)
  generalize (g3.push { cls := .type "tuple", data := .seq #[.int n tk, x] }) = g4 at t4 s4 e4 k4
  rw [s3] at t4 s4
  show wpAny _ _ (Builtin.SmallTypes.ownedTupleIsFree (.ref e) >>= _) _ _ _
  rw [s3]
  refine wpAny_bind ?_
  unfold Builtin.SmallTypes.ownedTupleIsFree
  refine wpAny_bind (wpAny_field e4 rfl (x := .none) rfl (wpAny_pure ?_))
  simp only [if_true]
  refine wpAny_bind (wpAny_rule (wpAny_bind (wpAny_field e4 rfl (x := old) rfl (wpAny_bind (wpAny_setField_rec e4 (by simp) fun g5 e5 b5 => ?_)))))
  replace e5 : IsEnum g5 e it (n + 1) x := e5
  show wpAny _ _ (Builtin.SmallTypes.ownedTupleHandOut (.ref e) (.ref g.objs.size) >>= _) _ _ _
  unfold Builtin.SmallTypes.ownedTupleHandOut
  refine wpAny_bind (wpAny_bind (wpAny_setField_rec e5 (by simp) fun g6 e6 b6 => ?_))
  replace e6 : IsEnumOut g6 e it (n + 1) x g.objs.size := e6
  refine wpAny_setField_rec e6 (by simp) fun g7 e7 b7 => wpAny_bind (wpAny_letGo (wpAny_pure ⟨_, rfl, fin g7 e7 ?_ ?_ ?_⟩))
  · have ng : g.objs.size ≠ e := Nat.ne_of_gt le
    exact b7.extBut _ _ ng (b6.extBut _ _ ng (b5.extBut _ _ ng t4))
  · exact b7.1.trans (b6.1.trans (b5.1.trans s4))
  · exact fun b o nb y => b7.extBut _ _ nb (b6.extBut _ _ nb (b5.extBut _ _ nb (k4 b o nb y)))
theorem pyNext_enumZ {e z TI TO i1 i2 l1 l2 : Addr} {i : Nat} {xs ys : Array Value} {old : Value} {Q : Option Value → Shared → Prop} (hh : A.handled = none) (D : ZipApart z TI TO i1 i2 l1 l2)
    (he : IsEnum s.heap e z i old) (q : ZS s.heap z TI TO i1 i2 l1 l2 i) (hl1 : s.heap.IsTuple l1 xs) (hl2 : s.heap.IsTuple l2 ys) (hne : e ∉ [z, TI, TO, i1, i2])
    (hQ : ∀ x y, xs[i]? = some x → ys[i]? = some y → ∀ h' tk, IsEnumOut h' e z ((i : Int) + 1) (.ref s.heap.objs.size) (s.heap.objs.size + 1) → ZS h' z TI TO i1 i2 l1 l2 (i + 1) → IsPair h' s.heap.objs.size x y →
      h'.get? (s.heap.objs.size + 1) = some { cls := .type "tuple", data := .seq #[.int i tk, .ref s.heap.objs.size] } → h'.objs.size = s.heap.objs.size + 2 →
      (∀ b o, b ≠ e → b ∉ [z, TI, TO, i1, i2] → s.heap.get? b = some o → h'.get? b = some o) → Q (some (.ref (s.heap.objs.size + 1))) { s with heap := h', toks := tk + 1 })
    (hE : xs[i]? = none ∨ ys[i]? = none → ∀ h', (∀ c o, c ∉ [z, TI, TO, i1, i2] → s.heap.get? c = some o → h'.get? c = some o) → Q none { s with heap := h' }) :
    wpAny (model prog w) A (pyNext (.ref e)) Q E s := by
  have hT : s.TypeIs (.ref e) "enumerate" := ⟨_, he, rfl⟩
  obtain ⟨nz, nTI, nTO, n1, n2⟩ : e ≠ z ∧ e ≠ TI ∧ e ≠ TO ∧ e ≠ i1 ∧ e ≠ i2 := by simpa using hne
  have el : e < s.heap.objs.size := Heap.lt_size he
  unfold pyNext
  refine wpAny_bind (wpAny_attempt (wpAny_callSpecial?_slot (name := Str.ofString "__next__") hT F.slot_enumerate_next
    (wpAny_call_entry F.slot_enumerate_next hT F.entry_enumerate_next (enum_turn he ?_) (F.args_enumerate_next_1 _))))
  refine nextOf_zip (by simp [hh]) D q hl1 hl2 (fun x y hx hy h1 ze => ⟨ze.kp e _ nz nTO n1 n2 he, fun h' io ht hs hk => wpAny_pure ?_⟩) fun hn h' e' hk hs => ?_
  · have ze1 : h1.objs.size = s.heap.objs.size + 1 := ze.sz
    have io' : IsEnumOut h' e z ((i : Int) + 1) (.ref s.heap.objs.size) (s.heap.objs.size + 1) := by rw [← ze1]; exact io
    have ht' : h'.get? (s.heap.objs.size + 1) = some { cls := .type "tuple", data := .seq #[.int i s.toks, .ref s.heap.objs.size] } := by rw [← ze1]; exact ht
    have hs' : h'.objs.size = s.heap.objs.size + 2 := by rw [hs]; show h1.objs.size + 1 = _; rw [ze1]
    show Q (some (.ref h1.objs.size)) _
    rw [ze1]
    refine hQ x y hx hy h' s.toks io' (ze.st.at fun b hb o y => hk b o (fun z => hne (z ▸ hb)) y) (hk _ _ (Nat.ne_of_gt el) ze.pr) ht' hs' fun b o nb nn y => hk b o nb ?_
    obtain ⟨m1, m2, m3, m4, m5⟩ : b ≠ z ∧ b ≠ TI ∧ b ≠ TO ∧ b ≠ i1 ∧ b ≠ i2 := by simpa using nn
    exact ze.kp b o m1 m3 m4 m5 y
  · obtain ⟨o, ho, hc⟩ := hs
    refine wpAny_bind (wpAny_isInstance (T := "StopIteration") (b := true) ⟨o, ho, hc⟩ isSubtype_stop (wpAny_pure (hE hn _ fun c o nn y => ?_)))
    obtain ⟨m1, m2, m3, m4, m5⟩ : c ≠ z ∧ c ≠ TI ∧ c ≠ TO ∧ c ≠ i1 ∧ c ≠ i2 := by simpa using nn
    exact hk c o m1 m3 m4 m5 y
/-- enumerate(z), z an iterator itself -/
theorem meets_newZ (z : Addr) :
    Meets (Builtin.«enumerate.__new__» ⟨[.type "enumerate", .ref z], []⟩) (fun _ R s => (∃ TI TO, IsZip s.heap z TI TO .none) ∧
      R (.ok (.ret (.ref s.heap.objs.size))) { s with heap := s.heap.push { cls := .type "enumerate", data := .fields #[.none, .bool false, .ref z, rawInt 0, .none, .none] } }) :=
  .of_wp fun prog w A R s y => by
    obtain ⟨g, gs, dr, tk, os⟩ := s
    obtain ⟨⟨TI, TO, z1⟩, fin⟩ := y
    have sub := sub_enumerate
    have self : ∀ {A2 : Around} {E2 : Value → Shared → Prop} {Q2 : Value → Shared → Prop}, Q2 (.ref z) ⟨g, gs, dr, tk, os⟩ → wpAny (model prog w) A2 (pyIter (.ref z)) Q2 E2 ⟨g, gs, dr, tk, os⟩ :=
      fun y => wpAny_pyIter_zip z1 y
    wp_walk using self
    refine wpAny_stack_any fun stk => wpAny_pure ?_
    split
    · rename_i cl _ _ _ _ _
      rcases (cl == Value.type "enumerate") with _ | _ <;> (wp_walk using self; exact ⟨_, rfl, fin⟩)
    · wp_walk using self
      exact ⟨_, rfl, fin⟩
theorem call_enumZ {z : Addr} {Q : Value → Shared → Prop} (z1 : ∃ TI TO, IsZip s.heap z TI TO .none)
    (fin : ∀ h2, IsEnum h2 s.heap.objs.size z 0 .none → (∀ b o, s.heap.get? b = some o → h2.get? b = some o) → Q (.ref s.heap.objs.size) { s with heap := h2 }) :
    wpAny (model prog w) A (call (.type "enumerate") [.ref z]) Q E s :=
  have ie : IsEnum (s.heap.push { cls := .type "enumerate", data := .fields #[.none, .bool false, .ref z, rawInt 0, .none, .none] }) s.heap.objs.size z 0 .none := Heap.get?_push_size s.heap (o := { cls := .type "enumerate", data := .fields #[.none, .bool false, .ref z, rawInt 0, .none, .none] }) rfl
  callType_new F.called_enumerate (by decide) (F.typeCall_enumerate_1 _) (F.newCall_enumerate_1 _) (fun x => F.args_object_init_2 x _) F.entry_enumerate_new (meets_newZ z) ⟨z1, ⟨_, ie, rfl⟩, fin _ ie fun b o x => Heap.get?_push_of_some _ x⟩
end
end Enz

set_option Elab.async false
set_option linter.all false
set_option maxRecDepth 100000
set_option maxHeartbeats 2000000
/-! for k, (x, y) in enumerate(zip(a, b)), a and b tuples -/
namespace Enz
open PySem PySem.Spec PyProof.Rows L2 RZ
def ItzE (K : PySem.W.Frag) (a b : Addr) : It :=
  ⟨fun i H => ∃ (xs ys : List V) (x y : V), SqT K H a xs ∧ SqT K H b ys ∧ xs[i]? = some x ∧ ys[i]? = some y,
    fun i H v H' => ∃ T U x y, v = .ref U ∧ H T = none ∧ H U = none ∧ U ≠ T ∧ H' = upd (upd H T (.tup [x, y])) U (.tup [.int (i : Nat), .ref T]) ∧ (∀ xs, SqT K H a xs → xs[i]? = some x) ∧ ∀ ys, SqT K H b ys → ys[i]? = some y,
    fun i H => ∃ xs ys : List V, SqT K H a xs ∧ SqT K H b ys ∧ (xs.length ≤ i ∨ ys.length ≤ i)⟩
theorem turn_enumZ {P : Program} {w : World} {K : PySem.W.Frag} {elts : List Expr} {kk : Nat} {tpos : Pos} {a b e z TI TO i1 i2 : Addr} (D : ZipApart z TI TO i1 i2 a b) (hne : e ∉ [z, TI, TO, i1, i2]) :
    Turn P w K (.Tuple elts kk tpos) (ItzE K a b) [e, z, TI, TO, i1, i2] e (fun i h => (∃ old, IsEnum h e z ((i : Nat) : Int) old) ∧ ZS h z TI TO i1 i2 a b i) where
  mem := by simp
  obj := fun i h st c hc => by
    obtain ⟨⟨old, he⟩, ⟨f0, bb, hz, _⟩, hTI, ⟨x, y, hTO⟩, ⟨o1, e1, _, d1⟩, ⟨o2, e2, _, d2⟩⟩ := st
    have e' : c = e ∨ c = z ∨ c = TI ∨ c = TO ∨ c = i1 ∨ c = i2 := by simpa using hc
    rcases e' with q | q | q | q | q | q
    · rw [q]; exact ⟨_, he, fun v q => nomatch q⟩
    · rw [q]; exact ⟨_, hz, fun v q => nomatch q⟩
    · rw [q]; exact ⟨_, hTI, fun v q => nomatch q⟩
    · rw [q]; exact ⟨_, hTO, fun v q => nomatch q⟩
    · rw [q]; exact ⟨o1, e1, fun v q => by rw [d1] at q; cases q⟩
    · rw [q]; exact ⟨o2, e2, fun v q => by rw [d2] at q; cases q⟩
  keep := fun i h h' st k => by
    obtain ⟨⟨old, he⟩, q⟩ := st
    exact ⟨⟨old, k e (by simp) _ he⟩, q.at fun b hb o y => k b (List.mem_cons_of_mem _ hb) o y⟩
  item := by
    intro X hP hw hK hc i pins s σ H E I hf st hg
    subst hP hw hK
    obtain ⟨⟨old, he⟩, q⟩ := st
    obtain ⟨xs, ys, x, y, hqx, hqy, hx, hy⟩ := hg
    obtain ⟨its, rv, p, _⟩ := I.tuple hqx
    obtain ⟨its2, rv2, p2, _⟩ := I.tuple hqy
    obtain ⟨u, hu, ru⟩ := rv.get hx
    obtain ⟨u2, hu2, ru2⟩ := rv2.get hy
    have hel : e < s.heap.objs.size := Heap.lt_size he
    have hlt : ∀ c ∈ [e, z, TI, TO, i1, i2], c < s.heap.objs.size := fun c hcm => by
      obtain ⟨⟨f0, bb, hz, _⟩, hTI, ⟨x0, y0, hTO⟩, ⟨o1, e1, _⟩, ⟨o2, e2, _⟩⟩ := q
      have e' : c = e ∨ c = z ∨ c = TI ∨ c = TO ∨ c = i1 ∨ c = i2 := by simpa using hcm
      rcases e' with q | q | q | q | q | q
      · rw [q]; exact hel
      · rw [q]; exact Heap.lt_size hz
      · rw [q]; exact Heap.lt_size hTI
      · rw [q]; exact Heap.lt_size hTO
      · rw [q]; exact Heap.lt_size e1
      · rw [q]; exact Heap.lt_size e2
    have gu : ∀ {l : List Value} {v v' : Value}, l[i]? = some v → l.toArray[i]? = some v' → v' = v := fun h1 h2 => pick h1 h2
    refine pyNext_enumZ (by simp [I.ok.hd hc]) D he q p p2 hne (fun v1 v2 hv1 hv2 h' tk io q' hT hU hsz k => ?_) fun hn => absurd hn (by simp [hu, hu2])
    obtain rfl := gu hu hv1
    obtain rfl := gu hu2 hv2
    refine ⟨_, rfl, wpAny_letOwnedTupleGo_enum (s := { s with heap := h', toks := tk + 1 }) io fun h3 ie sb => ?_⟩
    have nT : s.heap.objs.size ≠ e := Nat.ne_of_gt hel
    have nU : s.heap.objs.size + 1 ≠ e := Nat.ne_of_gt (Nat.lt_succ_of_lt hel)
    have hT3 : h3.get? s.heap.objs.size = some { cls := .type "tuple", data := .seq #[v1, v2] } := (sb.2 _ nT).trans hT
    have hU3 : h3.get? (s.heap.objs.size + 1) = some { cls := .type "tuple", data := .seq #[.int i tk, .ref s.heap.objs.size] } := (sb.2 _ nU).trans hU
    have fT : H s.heap.objs.size = none := I.hok.fresh (Nat.le_refl _)
    have fU : H (s.heap.objs.size + 1) = none := I.hok.fresh (Nat.le_succ _)
    have newT : ObjOk X.prog X.w (upd H s.heap.objs.size (.tup [x, y])) (s.heap.push { cls := .type "tuple", data := .seq #[v1, v2] }) s.heap.objs.size (.tup [x, y]) :=
      ⟨by show 2 ≤ sizeLine; decide, [v1, v2], .cons ru (.cons ru2 .nil), ⟨_, Heap.get?_push_size _ rfl, rfl, _, rfl⟩⟩
    have Ia : Inv X pins σ (upd H s.heap.objs.size (.tup [x, y])) { s with heap := s.heap.push { cls := .type "tuple", data := .seq #[v1, v2] }, toks := s.toks } :=
      I.laid (t' := s.toks) (fun _ _ q => Heap.get?_push_of_some _ q) (Nat.le_refl _) newT
    have za : (s.heap.push { cls := .type "tuple", data := .seq #[v1, v2] }).objs.size = s.heap.objs.size + 1 := Heap.size_push ..
    have newU : ObjOk X.prog X.w (upd (upd H s.heap.objs.size (.tup [x, y])) (s.heap.objs.size + 1) (.tup [.int (i : Nat), .ref s.heap.objs.size])) h3 (s.heap.objs.size + 1) (.tup [.int (i : Nat), .ref s.heap.objs.size]) :=
      ⟨by show 2 ≤ sizeLine; decide, [.int i tk, .ref s.heap.objs.size], .cons ⟨_, rfl⟩ (.cons rfl .nil), ⟨_, hU3, rfl, _, rfl⟩⟩
    have hfa : ∀ c ∈ [e, z, TI, TO, i1, i2], FpOk X pins (upd H s.heap.objs.size (.tup [x, y])) c := fun c hcm => by
      have := hf c hcm
      refine ⟨?_, this.2⟩
      rw [upd_ne (Nat.ne_of_lt (hlt c hcm))]
      exact this.1
    have Ib := Ia.turnedNew (t' := tk + 1) (ch := [e, z, TI, TO, i1, i2]) (h' := h3) (T := s.heap.objs.size + 1) (fun c o hb q => by
      have q' : (s.heap.push { cls := .type "tuple", data := .seq #[v1, v2] }).get? c = some o := q
      have cl : c < (s.heap.push { cls := .type "tuple", data := .seq #[v1, v2] }).objs.size := Heap.lt_size q'
      rw [za] at cl
      by_cases ec : c = s.heap.objs.size
      · subst ec
        rw [Heap.get?_push_size _ rfl] at q'
        cases q'
        exact hT3
      · have nc : c ≠ e := fun q => hb (by simp [q])
        have q2 : s.heap.get? c = some o := by
          obtain ⟨z1, z2⟩ := Heap.get?_some_iff.mp q'
          refine Heap.get?_some_iff.mpr ⟨?_, z2⟩
          simpa [Heap.push, Array.getElem?_push, ec] using z1
        exact (sb.2 _ nc).trans (k c o nc (fun z => hb (List.mem_cons_of_mem _ z)) q2)) hfa (by show (s.heap.push _).objs.size ≤ _; rw [za]; exact Nat.le_refl _) newU
    refine ⟨.ref (s.heap.objs.size + 1), _, Ib, rfl, ⟨_, _, x, y, rfl, fT, fU, Nat.succ_ne_self _, rfl, fun l hl => by rw [I.tuple_inj hl hqx]; exact hx, fun l hl => by rw [I.tuple_inj hl hqy]; exact hy⟩, ⟨⟨.ref s.heap.objs.size, ?_⟩, q'.at fun b hb o y => ?_⟩, fun c hcm => ?_⟩
    · rw [show ((i + 1 : Nat) : Int) = (i : Int) + 1 by omega]; exact ie
    · exact (sb.2 _ (fun z => hne (z ▸ hb))).trans y
    · have l := hlt c hcm
      rw [upd_ne (Nat.ne_of_lt (Nat.lt_succ_of_lt l)), upd_ne (Nat.ne_of_lt l)]
      exact (hf c hcm).1
  done := by
    intro X hP hw hK hc i pins s σ H E I hf st hg
    subst hP hw hK
    obtain ⟨⟨old, he⟩, q⟩ := st
    obtain ⟨xs, ys, hqx, hqy, hend⟩ := hg
    obtain ⟨its, rv, p, _⟩ := I.tuple hqx
    obtain ⟨its2, rv2, p2, _⟩ := I.tuple hqy
    have l1 := rv.length
    have l2 := rv2.length
    have hd : its.toArray[i]? = none ∨ its2.toArray[i]? = none := by
      rcases hend with q | q
      · exact .inl (by simp; omega)
      · exact .inr (by simp; omega)
    refine pyNext_enumZ (I.ok.hd hc) D he q p p2 hne (fun v1 v2 hv1 hv2 => ?_) fun _ h' hk => ⟨rfl, I.turnedL (t' := s.toks) (ch := [e, z, TI, TO, i1, i2]) (fun c o hb y => hk c o (fun z => hb (List.mem_cons_of_mem _ z)) y) hf⟩
    rcases hd with z | z
    · rw [z] at hv1
      cases hv1
    · rw [z] at hv2
      cases hv2
  self := fun A i s Q E st h => let ⟨⟨_, z1⟩, _⟩ := st; wpAny_pyIter_enum z1 h
def iEnumZ (K : PySem.W.Frag) (ta : TA) : TI := fun σ H R => ta σ H fun vs H1 => ∃ a b xs ys, vs = [.ref a, .ref b] ∧ SqT K H1 a xs ∧ SqT K H1 b ys ∧ R (ItzE K a b) H1
theorem pi_enumZ {X : Cx} {e1 e2 : Expr} {ta : TA} {p p2 pos pos2 tpos : Pos} {elts : List Expr} {kk : Nat} (hg : Gl X "enumerate") (hm : X.mg "enumerate" = none) (hgz : Gl X "zip") (hmz : X.mg "zip" = none) (ha : PA X [e1, e2] ta)
    (hs : starEach [.Call (.Name "zip" p2) [e1, e2] [] pos2] X.env = [(false, eval (.Call (.Name "zip" p2) [e1, e2] [] pos2) X.env)] := by rfl)
    (hs2 : starEach [e1, e2] X.env = (false, eval e1 X.env) :: starEach [e2] X.env := by rfl) (hpl : (backTo pos2 (starEach [e2] X.env)).any (·.1) = false := by rfl) :
    PI X (.Tuple elts kk tpos) (.Call (.Name "enumerate" p) [.Call (.Name "zip" p2) [e1, e2] [] pos2] [] pos) (iEnumZ X.K ta) := by
  refine ⟨fun pins s σ H R I h => Call_ (ld_blt I hg hm boot_enumerate (PyProof.Rows.callWith_type1 ?_ hs rfl))⟩
  rw [hs]
  show wpAny _ _ (spliced ((false, eval (.Call (.Name "zip" p2) [e1, e2] [] pos2) X.env) :: [])) _ _ s
  refine Calls.spliced_cons (Call_ (ld_blt I hgz hmz PyProof.Rows.boot_zip (PyProof.Rows.callWith_type1 (thn (ha.run pos2 pins s σ H _ I h) fun us s1 ⟨vs, H1, I1, r1, q1⟩ => ?_) hs2 hpl)))
  obtain ⟨a, b, xs, ys, ex, hqx, hqy, q⟩ := q1
  subst ex
  cases r1 with
  | cons r rr =>
    cases rr with
    | cons r' rr =>
      cases rr
      cases r
      cases r'
      obtain ⟨its, rv, p1, _⟩ := I1.tuple hqx
      obtain ⟨its2, rv2, p3, _⟩ := I1.tuple hqy
      obtain ⟨o1, ho1, _⟩ := id p1
      obtain ⟨o2, ho2, _⟩ := id p3
      refine call_zipT (show s1.heap.IsTuple a its.toArray from p1) (show s1.heap.IsTuple b its2.toArray from p3) fun h' hz hTI hTO h1 h2 hsz hk => Calls.spliced_nil ?_
      refine call_enumZ (s := { s1 with heap := h' }) ⟨_, _, hz⟩ fun h2' ie k => wpAny_pyIter_enum ie ?_
      have ez : ({ s1 with heap := h' } : Shared).heap.objs.size = s1.heap.objs.size + 5 := hsz
      rw [ez] at ie
      have I2 : Inv X pins σ H1 { s1 with heap := h2' } := I1.kept (t' := s1.toks) fun c o y => k c o (hk c o y)
      have q0 : ZS h2' (s1.heap.objs.size + 4) (s1.heap.objs.size + 2) (s1.heap.objs.size + 3) s1.heap.objs.size (s1.heap.objs.size + 1) a b 0 :=
        ⟨⟨_, _, k _ _ hz, .inl rfl⟩, k _ _ hTI, ⟨_, _, k _ _ hTO⟩, h1.at fun o q => k _ o q, h2.at fun o q => k _ o q⟩
      have ht : PIE X pins σ (.Tuple elts kk tpos) R (.ref (s1.heap.objs.size + 5)) { s1 with heap := h2' } := by
        refine ⟨s1.heap.objs.size + 5, [s1.heap.objs.size + 5, s1.heap.objs.size + 4, s1.heap.objs.size + 2, s1.heap.objs.size + 3, s1.heap.objs.size, s1.heap.objs.size + 1], _, _, H1, rfl, I2, turn_enumZ (PySem.W.ktu_apart s1.heap.objs.size a b (Heap.lt_size ho1) (Heap.lt_size ho2)) (by simp), ⟨⟨.none, ie⟩, q0⟩, fun c hcm => ?_, q⟩
        have hle : s1.heap.objs.size ≤ c := by
          have e' : c = s1.heap.objs.size + 5 ∨ c = s1.heap.objs.size + 4 ∨ c = s1.heap.objs.size + 2 ∨ c = s1.heap.objs.size + 3 ∨ c = s1.heap.objs.size ∨ c = s1.heap.objs.size + 1 := by simpa using hcm
          rcases e' with z | z | z | z | z | z
          all_goals (rw [z]; first | exact Nat.le_add_right _ _ | exact Nat.le_refl _)
        exact I1.fpOk hle (I1.hok.fresh hle)
      rw [← ez] at ht
      exact ht
end Enz
namespace Dat
open PySem PySem.Spec PyProof.Rows L2
def enumZ (ds es : List PyData) : List Av := ((List.zip ds es).zipIdx).map fun p => .dat (.tuple [.int ((p.2 : Nat) : Int), .tuple [p.1.1, p.1.2]])
section
variable {K : PySem.W.Frag} [Tb K] {Γ : List (Option Av)} {Ω : AH} {tl : TA} {ds es : List PyData}
theorem pi_enumQ {X : Cx} {K : PySem.W.Frag} [Tb K] {e1 e2 : Expr} {ta : TA} {p p2 pos pos2 tpos : Pos} {elts : List Expr} {kk : Nat} (hK : X.K = K) (hg : Gl X "enumerate") (hm : X.mg "enumerate" = none) (hgz : Gl X "zip") (hmz : X.mg "zip" = none) (ha : PA X [e1, e2] ta)
    (hs : starEach [.Call (.Name "zip" p2) [e1, e2] [] pos2] X.env = [(false, eval (.Call (.Name "zip" p2) [e1, e2] [] pos2) X.env)] := by rfl)
    (hs2 : starEach [e1, e2] X.env = (false, eval e1 X.env) :: starEach [e2] X.env := by rfl) (hpl : (backTo pos2 (starEach [e2] X.env)).any (·.1) = false := by rfl) :
    PI X (.Tuple elts kk tpos) (.Call (.Name "enumerate" p) [.Call (.Name "zip" p2) [e1, e2] [] pos2] [] pos) (Enz.iEnumZ K ta) := by
  subst hK
  exact Enz.pi_enumZ hg hm hgz hmz ha hs hs2 hpl
theorem enumZ_at {i : Nat} {c : Av} (e : (enumZ ds es)[i]? = some c) : ∃ d1 d2, ds[i]? = some d1 ∧ es[i]? = some d2 ∧ c = .dat (.tuple [.int ((i : Nat) : Int), .tuple [d1, d2]]) := by
  unfold enumZ at e
  rw [List.getElem?_map] at e
  obtain ⟨p, hp, rfl⟩ := Option.map_eq_some_iff.mp e
  rw [List.getElem?_zipIdx] at hp
  obtain ⟨⟨d1, d2⟩, hq, rfl⟩ := Option.map_eq_some_iff.mp hp
  obtain ⟨h1, h2⟩ := List.getElem?_zip_eq_some.mp hq
  exact ⟨d1, d2, h1, h2, by simp⟩
theorem enumZ_len : (enumZ ds es).length = min ds.length es.length := by
  unfold enumZ
  rw [List.length_map, List.length_zipIdx, List.length_zip]
theorem walk_enumZ {F : Hp} {a b : Addr} {xs ys : List V} (h : SqT K F a xs) (g : DqAll K F xs ds) (h2 : SqT K F b ys) (g2 : DqAll K F ys es) : WalkA K F (Enz.ItzE K a b) (enumZ ds es) := by
  constructor
  · intro Ω H k i c e
    obtain ⟨d1, d2, h1', h2', rfl⟩ := enumZ_at e
    obtain ⟨l1, e1⟩ := List.getElem?_eq_some_iff.mp h1'
    obtain ⟨l2, e2⟩ := List.getElem?_eq_some_iff.mp h2'
    obtain ⟨v, ev, hv⟩ := getD_dq g l1
    obtain ⟨u, eu, hu⟩ := getD_dq g2 l2
    have w1 : ds.getD i .none = d1 := by rw [List.getD_eq_getElem?_getD, h1']; rfl
    have w2 : es.getD i .none = d2 := by rw [List.getD_eq_getElem?_getD, h2']; rfl
    rw [w1] at hv
    rw [w2] at hu
    refine ⟨⟨xs, ys, v, u, sqT_same (k.fr.trans Fz_le) h, sqT_same (k.fr.trans Fz_le) h2, ev, eu⟩, fun x H' hy => ?_⟩
    obtain ⟨T, U, x2, y2, rfl, nT, nU, ne, rfl, f, f2⟩ := hy
    have t1 := f xs (sqT_same (k.fr.trans Fz_le) h)
    have t2 := f2 ys (sqT_same (k.fr.trans Fz_le) h2)
    rw [ev] at t1
    rw [eu] at t2
    cases t1
    cases t2
    have s1 : Same H (upd H T (.tup [v, u])) := same_new nT
    have k1 := k.same s1
    have nU1 : (upd H T (.tup [v, u])) U = none := by rw [upd_ne ne]; exact nU
    exact ⟨s1.trans (same_new nU1), .dat (tup_new k1 nU1 (.cons (.int _) (.cons (tup_new k nT (.cons (hv.same k.fr) (.cons (hu.same k.fr) .nil))) .nil)))⟩
  · intro Ω H k
    refine ⟨xs, ys, sqT_same (k.fr.trans Fz_le) h, sqT_same (k.fr.trans Fz_le) h2, ?_⟩
    rw [g.length, g2.length, enumZ_len]
    omega
theorem i_enumZ {P : List Av → AH → Prop} (h : AW K tl Γ Ω fun as Ω1 => ∃ ds es, as = [.dat (.tuple ds), .dat (.tuple es)] ∧ P (enumZ ds es) Ω1) : IW K (Enz.iEnumZ K tl) Γ Ω P := fun F σ H R k q =>
  h F σ H _ k fun as vs Ω1 H1 ⟨ds, es, e, hp⟩ k1 v1 => by
    subst e
    cases v1 with | cons va v1 => cases v1 with | cons vb v1 => cases v1; cases va with | dat va => cases vb with | dat vb => cases va with | tup hs g => cases vb with | tup hs2 g2 =>
      exact ⟨_, _, _, _, rfl, sqT_same Fz_le hs, sqT_same Fz_le hs2, q _ _ _ _ hp k1 (walk_enumZ hs g hs2 g2)⟩
end
end Dat

set_option Elab.async false
set_option linter.all false
set_option maxRecDepth 100000
set_option maxHeartbeats 2000000
/-! sorted of data of any depth, all alike: of a list, of a dict's keys; list of a dict's keys -/
namespace Dat
open PySem PySem.Spec PyProof.Rows L2 Dkd
open PySem.W (EachIs dataLe)
abbrev AlikeD (ds : List PyData) : Prop := PySem.W.AllAlike ds ∧ PySem.W.Sortable ds ∧ ∀ d ∈ ds, d.depth ≤ 60
noncomputable def srtD (ds : List PyData) : List PyData := ds.mergeSort (dataLe false id)
theorem srtD_perm (ds : List PyData) : (srtD ds).Perm ds := List.mergeSort_perm ..
def rSortedD (K : PySem.W.Frag) : List V → Hp → VK → Prop := fun vs H Q => ∃ (a : Addr) (xs : List V) (ds : List PyData) (F : Hp), vs = [.ref a] ∧ SqL K H a xs ∧ Same F H ∧ DqAll K F xs ds ∧ AlikeD ds ∧ ∀ ys p, DqAll K F ys (srtD ds) → H p = none → Q (.ref p) (upd H p (.lst ys))
def rSortedE (K : PySem.W.Frag) (w : World) : List V → Hp → VK → Prop := fun vs H Q => ∃ (a : Addr) (ep : Nat) (es : Ent) (F : Hp), vs = [.ref a] ∧ H a = some (.ext (ddP w a ep es)) ∧ Same F H ∧ (∀ p ∈ es, Dq K F (.ref p.2.1) p.1) ∧ AlikeD (es.map (·.1)) ∧ ∀ ys p, DqAll K F ys (srtD (es.map (·.1))) → H p = none → Q (.ref p) (upd H p (.lst ys))
def rListE (K : PySem.W.Frag) (w : World) : List V → Hp → VK → Prop := fun vs H Q => ∃ (a : Addr) (ep : Nat) (es : Ent), vs = [.ref a] ∧ H a = some (.ext (ddP w a ep es)) ∧ ∀ p, H p = none → Q (.ref p) (upd H p (.lst (es.map fun x => V.ref x.2.1)))
section
variable {X : Cx}
abbrev RvD (K : PySem.W.Frag) (F : Hp) (u : Value) (d : PyData) : Prop := ∃ x : V, RelV x u ∧ Dq K F x d
theorem each_of {K : PySem.W.Frag} {F : Hp} : ∀ {xs : List V} {us : List Value} {ds : List PyData}, Vals xs us → DqAll K F xs ds → EachIs (RvD K F) us ds
  | _, _, _, .nil, .nil => .nil
  | _, _, _, .cons r rr, .cons h g => .cons ⟨_, r, h⟩ (each_of rr g)
theorem of_each {K : PySem.W.Frag} {F : Hp} : ∀ {us : List Value} {ds : List PyData}, EachIs (RvD K F) us ds → ∃ ys, Vals ys us ∧ DqAll K F ys ds
  | _, _, .nil => ⟨[], .nil, .nil⟩
  | _, _, .cons ⟨x, r, h⟩ t => by
    obtain ⟨ys, h1, h2⟩ := of_each t
    exact ⟨x :: ys, .cons r h1, .cons h h2⟩
theorem each_reads {pins : List (Addr × Obj)} {σ : L2.St} {H F : Hp} {s : Shared} {us : List Value} {ds : List PyData} (I : Inv X pins σ H s) (sF : Same F H) (e : EachIs (RvD X.K F) us ds) : EachIs (fun v b => ∃ as, Reads s.heap v (id b) as) us ds :=
  e.mono fun u d ⟨x, r, h⟩ => by
    obtain ⟨as, ra, _⟩ := Dq.reads I d x u (h.same sF) r
    exact ⟨as, ra⟩
theorem cr_sortedD (hu : X.A.units + 100 < cLine) : CallR X (.builtin "sorted") (rSortedD X.K) := by
  intro pins s σ H vs us Q I r h
  obtain ⟨a, xs, ds, F, rfl, hs, sF, hd, ⟨hal, hk, hdep⟩, q⟩ := h
  obtain ⟨its, rv, hl, hz⟩ := I.list hs
  obtain ⟨u, rfl, ru⟩ := vals1 r
  obtain rfl : u = Value.ref a := ru
  have e := each_of rv hd
  refine PySem.W.sorted_data (enc := id) hl.isList e (each_reads I sF e) (by rw [List.map_id]; exact hal) (by rw [List.map_id]; exact hk) (by rw [← hd.length]; exact hz) (fun d m => by have := hdep d m; show X.A.units + 2 + d.depth < cLine; omega) fun out hlen eo => ?_
  obtain ⟨ys, hv, hy⟩ := of_each eo
  obtain ⟨n, hn⟩ := PyProof.Rows.sortedAll_at s.heap its out.toArray
  refine ⟨.ref (s.heap.objs.size + 1), upd H (s.heap.objs.size + 1) (.lst ys), I.laid (t' := s.toks) (fun b o e => PyProof.Rows.sortedAll_old e) (Nat.le_succ _) ⟨?_, out, n, hv, hn⟩, rfl, q _ _ hy (I.hok.fresh (Nat.le_succ _))⟩
  rw [hv.length, hlen, ← hd.length]
  exact hz
theorem cr_sortedE (hc : X.calm = true) (hu : X.A.units + 100 < cLine) : CallR X (.builtin "sorted") (rSortedE X.K X.w) := by
  intro pins s σ H vs us Q I r h
  obtain ⟨a, ep, es, F, rfl, he, sF, hd, ⟨hal, hk, hdep⟩, q⟩ := h
  obtain ⟨u, rfl, ru⟩ := vals1 r
  obtain rfl : u = Value.ref a := ru
  obtain ⟨hs, o, es', hgd, hx, hdt, hsz, ent⟩ := dd_obj I he
  have x : ObjOk X.prog X.w H s.heap a (.ext (ddP X.w a ep es)) := I.hok a _ he
  have hz : es.length ≤ sizeLine := x.1.1
  refine Calls.call_function_entry kind_sorted plain_sorted entry_sorted (args_sorted1 _) ?_
  unfold Builtin.«sorted»
  refine wpAny_bind (m := checkCount "sorted" 1 1 _) (wpAny_pure ?_)
  refine wpAny_bind (PySem.W.kdu_collect (A := X.A.in1) (KdlSrc.rawDict (ep := ep) hs) (by simp [I.ok.hd hc]) ⟨o, hgd, hx, hdt⟩ (by rw [hsz]; exact hz) fun h' tk acc hkp hacc => ?_)
  have eacc : acc.toList = es.map (fun x => Value.ref x.2.1) := by
    refine List.ext_getElem (by rw [Array.length_toList, List.length_map, hacc.1, hsz]) fun i h1 h2 => ?_
    rw [List.length_map] at h2
    have ha : acc[i]? = some acc[i] := Array.getElem?_eq_getElem (by rw [Array.length_toList] at h1; exact h1)
    obtain ⟨hi, ev⟩ := hacc.2 i _ ha
    rcases hp : es[i] with ⟨k, b, v⟩
    obtain ⟨en, hen, hkey⟩ := ent i k b v (by rw [List.getElem?_eq_getElem h2, hp])
    rw [Array.getElem?_eq_getElem hi] at hen
    cases hen
    rw [Array.getElem_toList, ev, hkey, List.getElem_map, hp]
  rw [eacc]
  have hlen : (es.map (fun x => Value.ref x.2.1)).length ≤ sizeLine := by rw [List.length_map]; exact hz
  refine wpAny_bind (wpAny_newList ?_ hlen)
  generalize hvs : es.map (fun x => Value.ref x.2.1) = vs at hlen
  have e : EachIs (RvD X.K F) vs (es.map (·.1)) := by
    rw [← hvs]
    clear hvs hlen q ent hacc eacc hal hk hdep hz x hsz he
    induction es with
    | nil => exact .nil
    | cons y es ih => exact .cons ⟨.ref y.2.1, rfl, hd y List.mem_cons_self⟩ (ih fun p m => hd p (List.mem_cons_of_mem _ m))
  have el : vs.length = (es.map (·.1)).length := by rw [← hvs, List.length_map, List.length_map]
  have hoL : (h'.push { cls := .type "list", data := .seq vs.toArray }).get? h'.objs.size = some (seqObj "list" vs.toArray 0) := Heap.get?_push_size _ rfl
  have keep : ∀ b o, s.heap.get? b = some o → b ≠ h'.objs.size ∧ (h'.push { cls := .type "list", data := .seq vs.toArray }).get? b = some o := fun b o q => by
    have := hkp b o q
    exact ⟨Nat.ne_of_lt (Heap.lt_size this), Heap.get?_push_of_some _ this⟩
  have er := each_reads I sF e
  generalize hh4 : h'.push { cls := .type "list", data := .seq vs.toArray } = h4 at hoL keep
  have er' : EachIs (fun v b => ∃ as, Reads (PySem.W.sortingHeap h4 h'.objs.size vs) v (id b) as) vs (es.map (·.1)) :=
    er.mono fun _ _ ⟨as, ra⟩ => ⟨as, PyProof.Rows.Reads.keeps (fun b o y => PySem.W.sortingHeap_old (keep b o y).1 (keep b o y).2) ra⟩
  have hal' : PySem.W.AllAlike ((es.map (·.1)).map id) := by rw [List.map_id]; exact hal
  refine wpAny_bind (wpAny_holding (wpAny_call_entry slot_list_sort ⟨_, hoL, rfl⟩ entry_list_sort (PySem.W.list_sort_vals (κ := PySem.W.dataKind (PySem.W.sortingHeap h4 h'.objs.size vs) ((es.map (·.1)).map id)) (s := { s with heap := h4, toks := tk }) hoL
    (PySem.W.SortsAt.data (s := { s with heap := PySem.W.sortingHeap h4 h'.objs.size vs, toks := tk }) (PySem.W.each_map (R := fun v d => ∃ as, Reads (PySem.W.sortingHeap h4 h'.objs.size vs) v d as) id er') hal' (by rw [List.map_id]; exact hk) (PySem.W.bound_map fun d m => by have := hdep d m; show X.A.units + 1 + 1 + d.depth < cLine; omega)) (by rw [el, List.length_map]; exact hz) ⟨.none, rfl, ?_⟩) (args_list_sort _)))
  have eo := PySem.W.sortVals_data (h' := PySem.W.sortingHeap h4 h'.objs.size vs) (enc := id) false e er' hal'
  obtain ⟨ys, hv, hy⟩ := of_each eo
  have hsl : h4.objs.size = h'.objs.size + 1 := by rw [← hh4, Heap.size_push]
  obtain ⟨n, hn⟩ := PyProof.Rows.sortedHeap_at (out := (PySem.W.sortVals (PySem.W.dataKind (PySem.W.sortingHeap h4 h'.objs.size vs) ((es.map (·.1)).map id)) false vs vs).toArray) hoL
  have I2 : Inv X pins σ H { s with heap := h', toks := tk } := I.kept (t' := tk) hkp
  refine wpAny_pure ⟨_, rfl, ⟨.ref h'.objs.size, upd H h'.objs.size (.lst ys), I2.laid (t' := tk) (fun b o y => ?_) (Nat.le_refl _) ⟨?_, _, n, hv, hn⟩, rfl, q _ _ hy (I2.hok.fresh (Nat.le_refl _))⟩⟩
  · have y' : h'.get? b = some o := y
    have n1 : b ≠ h'.objs.size := Nat.ne_of_lt (Heap.lt_size y')
    have y2 : h4.get? b = some o := by rw [← hh4]; exact Heap.get?_push_of_some _ y'
    rw [PyProof.Rows.sortedHeap_old n1 (Heap.lt_size y2)]
    exact y2
  · rw [hv.length, PySem.W.sortVals_length false rfl, el, List.length_map]
    exact hz
theorem cr_listE (hc : X.calm = true) : CallR X (.type "list") (rListE X.K X.w) := by
  intro pins s σ H vs us Q I r h
  obtain ⟨a, ep, es, rfl, he, q⟩ := h
  obtain ⟨u, rfl, ru⟩ := vals1 r
  obtain rfl : u = Value.ref a := ru
  obtain ⟨hs, o, es', hgd, hx, hdt, hsz, ent⟩ := dd_obj I he
  have x : ObjOk X.prog X.w H s.heap a (.ext (ddP X.w a ep es)) := I.hok a _ he
  have hz : es.length ≤ sizeLine := x.1.1
  refine PySem.W.kdl_call (KdlSrc.rawDict (ep := ep) hs) (I.ok.hd hc) ⟨o, hgd, hx, hdt⟩ (by rw [hsz]; exact hz) fun h' tk acc c hkp hn hacc => ?_
  have hv : Vals (es.map fun x => V.ref x.2.1) acc.toList := by
    have eacc : acc.toList = es.map (fun x => Value.ref x.2.1) := by
      refine List.ext_getElem (by rw [Array.length_toList, List.length_map, hacc.1, hsz]) fun i h1 h2 => ?_
      rw [List.length_map] at h2
      have ha : acc[i]? = some acc[i] := Array.getElem?_eq_getElem (by rw [Array.length_toList] at h1; exact h1)
      obtain ⟨hi, ev⟩ := hacc.2 i _ ha
      rcases hp : es[i] with ⟨k, b, v⟩
      obtain ⟨en, hen, hkey⟩ := ent i k b v (by rw [List.getElem?_eq_getElem h2, hp])
      rw [Array.getElem?_eq_getElem hi] at hen
      cases hen
      rw [Array.getElem_toList, ev, hkey, List.getElem_map, hp]
    rw [eacc]
    clear eacc q ent hacc hz x hsz he
    induction es with
    | nil => exact .nil
    | cons y es ih => exact .cons rfl ih
  refine ⟨.ref s.heap.objs.size, upd H s.heap.objs.size (.lst (es.map fun x => V.ref x.2.1)), I.laid (t' := tk) hkp (Nat.le_refl _) ⟨by rw [List.length_map]; exact hz, _, c, hv, ?_⟩, rfl, q _ (I.hok.fresh (Nat.le_refl _))⟩
  rw [hn]
end
/-! ### over data -/
section
variable {K : PySem.W.Frag} [Tb K] {Ω : AH} {P : Av → AH → Prop} {ds : List PyData} {w : World} {p : Addr}
theorem sortedDQ {X : Cx} (hK : X.K = K) (hu : X.A.units + 100 < cLine) : CallR X (.builtin "sorted") (rSortedD K) := by subst hK; exact cr_sortedD hu
theorem sortedEQ {X : Cx} (hK : X.K = K) (hw : X.w = w) (hc : X.calm = true) (hu : X.A.units + 100 < cLine) : CallR X (.builtin "sorted") (rSortedE K w) := by subst hK hw; exact cr_sortedE hc hu
theorem listEQ {X : Cx} (hK : X.K = K) (hw : X.w = w) (hc : X.calm = true) : CallR X (.type "list") (rListE K w) := by subst hK hw; exact cr_listE hc
theorem c_srtF (al : AlikeD ds) (h : P (.dat (.list (srtD ds))) Ω) : RCW K (rSortedD K) [.dat (.list ds)] Ω P := fun F H xs Q k hx q => by
  cases hx with | cons hx hr => cases hr; cases hx with | dat hx => cases hx with | lst hs g =>
    exact ⟨_, _, ds, Fz Ω H, rfl, SqL.of (Fz_le _ _ hs), Fz_le, g, al, fun ys q' g' np => q _ _ _ _ h (k.same (same_new np)) (.dat (lst_new k np g'))⟩
theorem c_srtP (al : AlikeD ds) (h : ∀ q, Ω.Off q → P (.ptr q) (put Ω q ((srtD ds).map .dat))) : RCW K (rSortedD K) [.dat (.list ds)] Ω P := fun F H xs Q k hx q => by
  cases hx with | cons hx hr => cases hr; cases hx with | dat hx => cases hx with | lst hs g =>
    exact ⟨_, _, ds, Fz Ω H, rfl, SqL.of (Fz_le _ _ hs), Fz_le, g, al, fun ys q' g' np => q _ _ _ _ (h q' (k.off np)) (k.new np (.ofDats g')) (.ptr q')⟩
theorem c_srtPF (o : Ω p = some (ds.map .dat)) (al : AlikeD ds) (h : P (.dat (.list (srtD ds))) Ω) : RCW K (rSortedD K) [.ptr p] Ω P := fun F H xs Q k hx q => by
  cases hx with | cons hx hr =>
    cases hr
    cases hx
    obtain ⟨zs, h1, h2⟩ := k.st p _ o
    exact ⟨p, zs, ds, Fz Ω H, rfl, SqL.of h1, Fz_le, h2.dats, al, fun ys q' g' np => q _ _ _ _ h (k.same (same_new np)) (.dat (lst_new k np g'))⟩
theorem c_srtPP (o : Ω p = some (ds.map .dat)) (al : AlikeD ds) (h : ∀ q, Ω.Off q → P (.ptr q) (put Ω q ((srtD ds).map .dat))) : RCW K (rSortedD K) [.ptr p] Ω P := fun F H xs Q k hx q => by
  cases hx with | cons hx hr =>
    cases hr
    cases hx
    obtain ⟨zs, h1, h2⟩ := k.st p _ o
    exact ⟨p, zs, ds, Fz Ω H, rfl, SqL.of h1, Fz_le, h2.dats, al, fun ys q' g' np => q _ _ _ _ (h q' (k.off np)) (k.new np (.ofDats g')) (.ptr q')⟩
theorem entL_keys (l : List Fe) : (entL l).map (·.1) = l.map (·.1) := by
  unfold entL
  rw [List.map_map]
  rfl
theorem dd_dats {F : Hp} : ∀ {kvs : List (PyData × Av)} {vs : Ent}, DdAll K F kvs vs → vs.map (·.1) = kvs.map (·.1) ∧ ∀ q ∈ vs, Dq K F (.ref q.2.1) q.1
  | [], _, g => by
    cases g
    exact ⟨rfl, fun q m => by cases m⟩
  | (k, a) :: r, _, g => by
    cases g with
    | @cons _ q _ qs h t =>
      obtain ⟨h1, h2, h3, h4⟩ := h
      obtain ⟨e, f⟩ := dd_dats t
      refine ⟨by rw [List.map_cons, List.map_cons, e, h1], fun y m => ?_⟩
      rcases List.mem_cons.mp m with rfl | m
      · rw [← h1]
        exact h3
      · exact f y m
/-- sorted(d), list(d), d frozen -/
theorem c_srtE {ep : Nat} {l : List Fe} (hl : KeysL l) (al : AlikeD (l.map (·.1))) (h : P (.dat (.list (srtD (l.map (·.1))))) Ω) : RCW K (rSortedE K w) [FzD w p ep l] Ω P := fun F H xs Q k hx q => by
  cases hx with | cons hx hr =>
    cases hr
    obtain ⟨rfl, e1, _, _⟩ := fz_at hl fz_same hx
    refine ⟨p, ep, entL l, Fz Ω H, rfl, e1, Fz_le, fun y m => ?_, by rw [entL_keys]; exact al, fun ys q' g' np => ?_⟩
    · cases hx with | fn h1 g1 =>
        obtain ⟨x, mx, rfl⟩ := List.mem_map.mp m
        exact g1 (V.ref x.2.1, x.1) (List.mem_append_left _ (List.mem_map.mpr ⟨x, mx, rfl⟩))
    · rw [entL_keys] at g'
      exact q _ _ _ _ h (k.same (same_new np)) (.dat (lst_new k np g'))
/-- .. d that may change -/
theorem c_srtEP {kvs : List (PyData × Av)} (o : Ω.o p = some (.dd w p kvs)) (al : AlikeD (kvs.map (·.1))) (h : P (.dat (.list (srtD (kvs.map (·.1))))) Ω) : RCW K (rSortedE K w) [.ptr p] Ω P := fun F H xs Q k hx q => by
  cases hx with | cons hx hr =>
    cases hr
    cases hx
    obtain ⟨ep, vs, e1, g⟩ := dd_of' k o
    obtain ⟨ek, ed⟩ := dd_dats g
    refine ⟨p, ep, vs, Fz Ω H, rfl, e1, Fz_le, ed, by rw [ek]; exact al, fun ys q' g' np => ?_⟩
    rw [ek] at g'
    exact q _ _ _ _ h (k.same (same_new np)) (.dat (lst_new k np g'))
theorem dq_keys {F : Hp} : ∀ {vs : Ent}, (∀ q ∈ vs, Dq K F (.ref q.2.1) q.1) → DqAll K F (vs.map fun x => V.ref x.2.1) (vs.map (·.1))
  | [], _ => .nil
  | y :: r, h => .cons (h y List.mem_cons_self) (dq_keys fun q m => h q (List.mem_cons_of_mem _ m))
theorem c_lstE {ep : Nat} {l : List Fe} (hl : KeysL l) (h : ∀ q, Ω.Off q → P (.ptr q) (put Ω q ((l.map (·.1)).map .dat))) : RCW K (rListE K w) [FzD w p ep l] Ω P := fun F H xs Q k hx q => by
  cases hx with | cons hx hr =>
    cases hr
    obtain ⟨rfl, e1, _, _⟩ := fz_at hl fz_same hx
    refine ⟨p, ep, entL l, rfl, e1, fun q' np => ?_⟩
    cases hx with | fn h1 g1 =>
      have g := dq_keys (K := K) (F := Fz Ω H) (vs := entL l) fun y m => by
        obtain ⟨x, mx, rfl⟩ := List.mem_map.mp m
        exact g1 (V.ref x.2.1, x.1) (List.mem_append_left _ (List.mem_map.mpr ⟨x, mx, rfl⟩))
      rw [entL_keys] at g
      exact q _ _ _ _ (h q' (k.off np)) (k.new np (.ofDats g)) (.ptr q')
theorem c_lstEP {kvs : List (PyData × Av)} (o : Ω.o p = some (.dd w p kvs)) (h : ∀ q, Ω.Off q → P (.ptr q) (put Ω q ((kvs.map (·.1)).map .dat))) : RCW K (rListE K w) [.ptr p] Ω P := fun F H xs Q k hx q => by
  cases hx with | cons hx hr =>
    cases hr
    cases hx
    obtain ⟨ep, vs, e1, g⟩ := dd_of' k o
    obtain ⟨ek, ed⟩ := dd_dats g
    have g' := dq_keys ed
    rw [ek] at g'
    exact ⟨p, ep, vs, rfl, e1, fun q' np => q _ _ _ _ (h q' (k.off np)) (k.new np (.ofDats g')) (.ptr q')⟩
end
end Dat

set_option Elab.async false
set_option linter.all false
set_option maxRecDepth 100000
set_option maxHeartbeats 2000000
/-! {k: v for ..}, whatever is told of the dict: what stands new, how it takes a key; dicts whose keys are data -/
namespace Dcg
open PySem PySem.Spec PyProof.Rows L2
/-- what a dict in the making takes: the key, the value, what holds behind it -/
abbrev Sto := Addr → V → V → Hp → (Hp → Prop) → Prop
/-- a turn of the block -/
def turnG (sto : Sto) (J : It) (g : TG) (tt : TT) (tk tv : TE) (vs : List Nat) (σ : L2.St) (D : Addr) (i : Nat) (H : Hp) (Nx : Hp → Prop) : Prop :=
  J.go i H ∧ ∀ x H', J.yld i H x H' → g x (wipe σ vs) H' fun σ2 H2 => wipe σ2 vs = wipe σ vs ∧ tt σ2 H2 fun b H3 => if b = true then tk σ2 H3 fun y H4 => tv σ2 H4 fun z H5 => sto D y z H5 Nx else Nx H3
def tDcG (emp : Addr → HO) (sto : Sto) (wi : TI) (g : TG) (tt : TT) (tk tv : TE) (vs : List Nat) : TE := fun σ H Q => wi σ H fun J H1 => ∀ D, H1 D = none → ∃ W : Nat → Nat → Hp → Prop, (∃ m, W 0 m (upd H1 D (emp D))) ∧
  ∀ i m H, W i m H → (J.stop i H ∧ Q (.ref D) H) ∨ ∃ Nx : Hp → Prop, (∀ H', Nx H' → ∃ m', m' < m ∧ W (i + 1) m' H') ∧ turnG sto J g tt tk tv vs σ D i H Nx
/-- emp is right for a new dict, sto for a store into it -/
structure Right (P : Program) (w : World) (K : PySem.W.Frag) (emp : Addr → HO) (sto : Sto) : Prop where
  new : ∀ (h : Heap) (H : Hp), sysModules < h.objs.size → ObjOk P w H (h.push { cls := .type "dict", data := .dict #[] }) h.objs.size (emp h.objs.size)
  put : ∀ (X : Cx), X.prog = P → X.w = w → X.K = K → ∀ (pins : List (Addr × Obj)) (σ : L2.St) (H : Hp) (s : Shared) (E : Value → Shared → Prop) (D : Addr) (y z : V) (u r : Value) (Nx : Hp → Prop), X.A.units + 20 < cLine → Inv X pins σ H s → RelV y u → RelV z r → sto D y z H Nx →
    wpAny (model P w) X.A (dictSet D u r) (fun _ s' => ∃ H', Inv X pins σ H' s' ∧ Nx H') E s
section
variable {X : Cx} {pins : List (Addr × Obj)} {s : Shared} {σ : L2.St} {H : Hp} {Q : VK} {kx vx tg iter : Expr} {ifs : List Expr} {scope : Scope} {own : List (Str × Nat)} {pos pos' : Pos} {wi : TI} {g : TG} {tt : TT} {tk tv : TE} {emp : Addr → HO} {sto : Sto}
theorem dcG_core {use : Option (Value → Sem Unit)} {Qf : Value → Shared → Prop} (R : Right X.prog X.w X.K emp sto) (hu : X.A.units + 20 < cLine) (hc : X.calm = true) (hN : X.N.Nodup) (I : Inv X pins σ H s) (hi : PI X tg iter wi) (ok : BlkOk X.N X.env.scope scope own)
    (hg : ∀ (s : Shared) (H : Hp) (C : Addr) (cl : List (Str × Addr)) (fp : List Addr), PG (X.blk s H scope (compEnvC scope cl C X.env) fp) tg g) (ht : ∀ (s : Shared) (H : Hp) (C : Addr) (cl : List (Str × Addr)) (fp : List Addr), PTs (X.blk s H scope (compEnvC scope cl C X.env) fp) ifs tt)
    (hk : ∀ (s : Shared) (H : Hp) (C : Addr) (cl : List (Str × Addr)) (fp : List Addr), PE (X.blk s H scope (compEnvC scope cl C X.env) fp) kx tk)
    (he : ∀ (s : Shared) (H : Hp) (C : Addr) (cl : List (Str × Addr)) (fp : List Addr), PE (X.blk s H scope (compEnvC scope cl C X.env) fp) vx tv) (hs : ∀ x, foldedSetIterable iter X.env x = pure x)
    (h : tDcG emp sto wi g tt tk tv (own.map (·.2)) σ H Q)
    (fin : ∀ D C s' m H', Inv X pins σ H' s' → Q (.ref D) H' → s'.heap.Ns C m → FpOk X pins H' C → compPost (model X.prog X.w) X.A X.xe use Qf (.ref D) C (.ok .next) s') :
    wpAny (model X.prog X.w) X.A (comprehension (.DictComp kx vx [⟨tg, iter, ifs, 0⟩] scope pos) scope X.env pos' newDict false (eval iter X.env) use) Qf X.xe s := by
  have clo := closure_ok fun y hy e => (ok.free y hy e).elim (fun k => I.ok.has _ (.inl k)) fun k => I.ok.has _ (.inr k)
  refine wpAny_comprehension_free (use := use) rfl hs clo ok.kind (fun y hy e => by rw [ok.uniq y hy, e]) (thn (hi.run pins s σ H _ I h) fun xv s1 hx => thn hx fun itv s2 ⟨it, fp, tn, J, H2, e, I2, T, st2, f2, q⟩ => ?_)
  subst e
  refine wpAny_newObj_type (newEnv_comp ?_)
  -- the new dict stands at D, the block's names behind it
  obtain ⟨D, hD⟩ : ∃ D, s2.heap.objs.size = D := ⟨_, rfl⟩
  have nD : H2 D = none := I2.hok.fresh (Nat.le_of_eq hD)
  obtain ⟨W, ⟨m0, w0⟩, turn⟩ := q D nD
  have I3 : Inv X pins σ (upd H2 D (emp D)) { s2 with heap := s2.heap.push { cls := .type "dict", data := .dict #[] }, toks := s2.toks } :=
    I2.laid (t' := s2.toks) (fun b o e => Heap.get?_push_of_some _ e) (Nat.le_of_eq hD) (by rw [← hD]; exact R.new s2.heap _ I2.big)
  have lt : ∀ b ∈ fp, b < s2.heap.objs.size := fun b hb => let ⟨_, e, _⟩ := T.obj _ _ st2 b hb; Heap.lt_size e
  have f3 : ∀ b ∈ fp, FpOk X pins (upd H2 D (emp D)) b ∧ b < (s2.heap.push { cls := .type "dict", data := .dict #[] }).objs.size := fun b hb =>
    ⟨⟨by rw [upd_ne (by rw [← hD]; exact Nat.ne_of_lt (lt b hb))]; exact (f2 b hb).1, (f2 b hb).2⟩, by rw [Heap.size_push]; exact Nat.lt_succ_of_lt (lt b hb)⟩
  have st3 : tn 0 (s2.heap.push { cls := .type "dict", data := .dict #[] }) := T.keep _ _ _ st2 fun b _ o e => Heap.get?_push_of_some _ e
  rw [hD]
  generalize hs3 : ({ s2 with heap := s2.heap.push { cls := .type "dict", data := .dict #[] }, toks := s2.toks } : Shared) = s3 at I3
  have e3 : s3.heap = s2.heap.push { cls := .type "dict", data := .dict #[] } := by rw [← hs3]
  have e3' : ({ s2 with heap := s2.heap.push { cls := .type "dict", data := .dict #[] } } : Shared) = s3 := hs3
  rw [← e3] at f3 st3
  generalize hH3 : upd H2 D (emp D) = H3 at I3 f3 w0
  have I4 := block_start I3 ok hN f3
  obtain ⟨ce, hce⟩ : ∃ ce, compEnvC scope (cellsFrom (s3.heap.objs.size + 1) scope.names (cloFrom X.env.cells scope.names [])) s3.heap.objs.size X.env = ce := ⟨_, rfl⟩
  have pg := hg s3 H3 s3.heap.objs.size (cellsFrom (s3.heap.objs.size + 1) scope.names (cloFrom X.env.cells scope.names [])) fp
  have pt := ht s3 H3 s3.heap.objs.size (cellsFrom (s3.heap.objs.size + 1) scope.names (cloFrom X.env.cells scope.names [])) fp
  have pk := hk s3 H3 s3.heap.objs.size (cellsFrom (s3.heap.objs.size + 1) scope.names (cloFrom X.env.cells scope.names [])) fp
  have pe := he s3 H3 s3.heap.objs.size (cellsFrom (s3.heap.objs.size + 1) scope.names (cloFrom X.env.cells scope.names [])) fp
  rw [hce] at I4 pg pt pk pe
  have cL : ce.locals = s3.heap.objs.size := by rw [← hce]; rfl
  refine (show codeAny _ _ (.compStart _ 0 (.ref it) (.ref D) (compEnvC scope (cellsFrom (s3.heap.objs.size + 1) scope.names (cloFrom X.env.cells scope.names [])) s3.heap.objs.size X.env)) _ { s3 with heap := pushCells (s3.heap.push { cls := .type "dict", data := .dict #[] }) scope.names } from ?_)
  rw [hce]
  have st4 : tn 0 (pushCells (s3.heap.push { cls := .type "dict", data := .dict #[] }) scope.names) := T.keep _ _ _ st3 fun b _ o e => pushCells_keeps _ _ _ _ (Heap.get?_push_of_some _ e)
  generalize hs4 : ({ s3 with heap := pushCells (s3.heap.push { cls := .type "dict", data := .dict #[] }) scope.names } : Shared) = s4 at I4
  replace st4 : tn 0 s4.heap := by rw [← hs4]; exact st4
  -- what the iterator stands on is off, in the block too
  have off : ∀ {σ' : L2.St} {H' : Hp} {s' : Shared}, Inv (X.blk s3 H3 scope ce fp) [] σ' H' s' → (∀ b ∈ fp, H' b = none) → ∀ b ∈ fp, FpOk (X.blk s3 H3 scope ce fp) [] H' b := fun J' n b hb =>
    ⟨n b hb, (J'.ok.exf b hb).1, J'.ok.exfs b hb, .inl hb, fun x c e => (J'.ok.exf b hb).2 x c e, fun p hp => absurd (show p ∈ ([] : List (Addr × Obj)) ++ [] from hp) (by simp)⟩
  have loop : codeAny (model X.prog X.w) X.A (.compLoop (.DictComp kx vx [⟨tg, iter, ifs, 0⟩] scope pos) 0 (.ref it) (.ref D) ce) (compPost (model X.prog X.w) X.A X.xe use Qf (.ref D) s3.heap.objs.size) s4 := by
    refine compLoop_anyD (fun n s' => ∃ i H', Inv (X.blk s3 H3 scope ce fp) [] (wipe σ (own.map (·.2))) H' s' ∧ tn i s'.heap ∧ (∀ b ∈ fp, H' b = none) ∧ W i n H') ?_ m0 ⟨0, H3, I4, st4, fun b hb => (f3 b hb).1.1, w0⟩
    rintro n s5 ⟨i, H5, I5, st5, n5, w5⟩
    rcases turn i n H5 w5 with ⟨stop, qq⟩ | ⟨Nx, hNx, go, step⟩
    · refine thnF (T.done (X.blk s3 H3 scope ce fp) rfl rfl rfl hc i [] s5 _ H5 (fun _ _ => False) I5 (off I5 n5) st5 stop) fun r s6 ⟨hr, I6⟩ => ?_
      subst hr
      have I7 : Inv X pins σ H5 s6 := I3.call' (ch := fp) I6.os I6.base I6.hok I6.bare fun b hb => ⟨(f3 b hb).1.2.2.2.1, (f3 b hb).1.2.1, (f3 b hb).1.2.2.2.2.1, (f3 b hb).1.2.2.2.2.2⟩
      have nC : H5 s3.heap.objs.size = none := by rw [← cL]; exact I6.free
      obtain ⟨m, hn, _⟩ := I6.loc
      replace hn : s6.heap.Ns ce.locals m := hn
      rw [cL] at hn
      exact fin D s3.heap.objs.size s6 m H5 I7 qq hn (I3.fpOk (Nat.le_refl _) nC)
    · refine thnF (T.item (X.blk s3 H3 scope ce fp) rfl rfl rfl hc i [] s5 _ H5 (fun _ _ => False) I5 (off I5 n5) st5 go) fun r s6 ⟨u, hr, h6⟩ => ?_
      subst hr
      refine thnF h6 fun _ s7 ⟨x, H7, I7, r7, y7, st7, n7⟩ => ?_
      -- behind the turn all stands as the next one asks
      have nxt : ∀ {σ8 : L2.St} {s' : Shared} {H' : Hp}, wipe σ8 (own.map (·.2)) = wipe σ (own.map (·.2)) → Inv (X.blk s3 H3 scope ce fp) ([] ++ pinsAt fp s7.heap) σ8 H' s' → Nx H' → ∃ m, m < n ∧ ∃ i H', Inv (X.blk s3 H3 scope ce fp) [] (wipe σ (own.map (·.2))) H' s' ∧ tn i s'.heap ∧ (∀ b ∈ fp, H' b = none) ∧ W i m H' := fun {σ8 s' H'} hw I' nx => by
        obtain ⟨m', hm, w'⟩ := hNx H' nx
        have pin : ∀ b ∈ fp, ∀ o, s7.heap.get? b = some o → s'.heap.get? b = some o ∧ H' b = none := fun b hb o e =>
          let y := I'.pin (b, o) (List.mem_append_right _ (List.mem_append_right _ (mem_pinsAt hb e)))
          ⟨y.1, y.2.1⟩
        refine ⟨m', hm, i + 1, H', (I'.unpinned (pins := [])).weak (by rw [← hw, wipe_length]) (fun j v e => by rw [← hw] at e; exact (wipe_some e).1), T.keep _ _ _ st7 fun b hb o e => (pin b hb o e).1, fun b hb => ?_, w'⟩
        obtain ⟨o, e, _⟩ := T.obj _ _ st7 b hb
        exact (pin b hb o e).2
      refine thnF (pg.run _ s7 _ H7 x u _ (I7.pinned (off I7 n7) (T.obj _ _ st7)) r7 (step x H7 y7)) fun _ s8 ⟨σ8, H8, I8, hw8, q8⟩ => ?_
      refine thnF (pt.run _ s8 σ8 H8 _ I8 q8) fun b s9 ⟨H9, I9, q9⟩ => ?_
      rcases b with _ | _
      · exact nxt hw8 I9 q9
      · refine thnF (pk.run _ s9 σ8 H9 _ I9 q9) fun ku s10 ⟨ky, H10, I10, r10, q10⟩ => ?_
        refine thnF (pe.run _ s10 σ8 H10 _ I10 q10) fun vu s11 ⟨vy, H11, I11, r11, q11⟩ => ?_
        exact thn (R.put (X.blk s3 H3 scope ce fp) rfl rfl rfl _ σ8 H11 s11 _ D ky vy ku vu Nx hu I11 r10 r11 q11) fun _ s12 ⟨H12, I12, nx⟩ => nxt hw8 I12 nx
  exact codeAny_compStart_dict loop (T.self X.A 0 _ _ _ st4 loop)
variable (R : Right X.prog X.w X.K emp sto) (hu : X.A.units + 20 < cLine) (hc : X.calm = true) (hN : X.N.Nodup) (hi : PI X tg iter wi) (ok : BlkOk X.N X.env.scope scope own)
    (hg : ∀ (s : Shared) (H : Hp) (C : Addr) (cl : List (Str × Addr)) (fp : List Addr), PG (X.blk s H scope (compEnvC scope cl C X.env) fp) tg g) (ht : ∀ (s : Shared) (H : Hp) (C : Addr) (cl : List (Str × Addr)) (fp : List Addr), PTs (X.blk s H scope (compEnvC scope cl C X.env) fp) ifs tt)
    (hk : ∀ (s : Shared) (H : Hp) (C : Addr) (cl : List (Str × Addr)) (fp : List Addr), PE (X.blk s H scope (compEnvC scope cl C X.env) fp) kx tk)
    (he : ∀ (s : Shared) (H : Hp) (C : Addr) (cl : List (Str × Addr)) (fp : List Addr), PE (X.blk s H scope (compEnvC scope cl C X.env) fp) vx tv)
include R hu hc hN hi ok hg ht hk he
theorem pe_dcG (hs : ∀ x, foldedSetIterable iter X.env x = pure x) : PE X (.DictComp kx vx [⟨tg, iter, ifs, 0⟩] scope pos) (tDcG emp sto wi g tt tk tv (own.map (·.2))) := by
  refine ⟨fun pins s σ H Q I h => ?_⟩
  rw [arm_eval_DictComp]
  refine dcG_core R hu hc hN I hi ok hg ht hk he hs h fun D C s' m H' I' q hn f => ⟨m, hn, fun h'' sb => ?_⟩
  obtain ⟨p0, p1, _, p3, p4, p5⟩ := f
  exact ⟨.ref D, H', I'.turned (t' := s'.toks) (fun b o hb e => (sb.2 b hb).trans e) p0 p1 p3 p4 p5, rfl, q⟩
/-- y = {..}, y a local name: stored before the block's names are let go -/
theorem ps_setDcG {i : Nat} {y : Str} {py spos : Pos} (hy : X.N[i]? = some y) (hyl : X.env.scope.names.lookup y = some .local) (hsw : swapsWith (.DictComp kx vx [⟨tg, iter, ifs, 0⟩] scope pos) (some (.Name y py)) spos.line X.env = pure true) (hs : ∀ x, foldedSetIterable iter X.env x = pure x) :
    PS X (.Assign [.Name y py] (.DictComp kx vx [⟨tg, iter, ifs, 0⟩] scope pos) spos) (tAsg (tDcG emp sto wi g tt tk tv (own.map (·.2))) (gName i)) := by
  refine ⟨fun pins s σ H D I h => ?_⟩
  rw [exec_Assign_Name_used _ _ _ _ hsw]
  have h' : tDcG emp sto wi g tt tk tv (own.map (·.2)) σ H (fun x H1 => gName i x σ H1 D.nx) := h
  refine wpAny_bind (wpAny_standAt (wpAny_bind ?_))
  show wpAny _ X.A (do let _ ← comprehension (.DictComp kx vx [⟨tg, iter, ifs, 0⟩] scope pos) scope X.env (firstIterPos [⟨tg, iter, ifs, 0⟩] pos) newDict false (eval iter X.env) (some (assign (.Name y py) X.env))) _ _ s
  refine wpAny_bind (thn (dcG_core (Qf := fun _ s' => SP X pins D .next s') R hu hc hN I hi ok hg ht hk he hs h' fun L C s' m H' I' q hn ⟨p0, p1, _, p3, p4, p5⟩ => ?_) fun _ s' hq => wpAny_pure (wpAny_pure hq))
  refine wpAny_assign_Name (store_ok2 (v := V.ref L) I' hN hy (.inl hyl) rfl (fun s2 I2 ⟨a, sb, ha⟩ => ?_) (.inr hyl))
  have ne : C ≠ a := ha.elim (fun z => by rw [z]; exact p1) fun z => fun e => p4 y a z e.symm
  exact ⟨m, hn.sameBut sb ne, fun h3 sb3 => ⟨_, H', I2.turned (t' := s2.toks) (fun b o hb e => (sb3.2 b hb).trans e) p0 p1 p3 p4 p5, q⟩⟩
omit R hu hc hN hi ok hg ht hk he
theorem sw_dc {gs : List Comprehension} {py : Pos} {y : Str} {l : Nat} {env : Env} (hf : env.scope.kind = .function) (hy : env.scope.names.lookup y = some .local) (hl : (py.line == pos.line) = true)
    (ha : (scope.names.any fun (n, k) => n == y && (k == .local || k == .cell)) = false) : swapsWith (.DictComp kx vx gs scope pos) (some (.Name y py)) l env = pure true := by
  have e1 : env.kindOf y = some .local := hy
  have e2 : (env.blockKind == .function) = true := by
    have z : env.blockKind = .function := by
      rw [← hf]
      unfold Env.blockKind
      first | rfl | simp [hf]
    rw [z]
    rfl
  show (pure (env.blockKind == .function && env.kindOf y == some .local && py.line == pos.line && !(scope.names.any fun (n, k) => n == y && (k == .local || k == .cell))) : Sem Bool) = pure true
  rw [e1, e2, hl, ha]
  rfl
end
end Dcg
namespace Dat
open PySem PySem.Spec PyProof.Rows L2 Dkd Dcg
def empE (w : World) : Addr → HO := fun D => .ext (ddP w D 0 [])
def stoE (K : PySem.W.Frag) (w : World) : Sto := fun D y z H Nx => ∃ (b : Addr) (k : PyData) (vs : Ent), y = .ref b ∧ KeyAt K H k b ∧ DdAt K w H D vs ∧ vs.length < sizeLine ∧ ∀ ep, Nx (upd H D (.ext (ddP w D ep (putE vs k b z))))
theorem rightE (P : Program) (w : World) (K : PySem.W.Frag) : Right P w K (empE w) (stoE K w) where
  new := fun h H hb => dd_empty h hb
  put := by
    intro X hP hw hK pins σ H s E D y z u r Nx hu I ry rz ⟨b, k, vs, ey, hk, hd, hl, hn⟩
    subst hP hw hK ey
    obtain rfl : u = Value.ref b := ry
    obtain ⟨⟨ep, he⟩, hks⟩ := hd
    obtain ⟨z1, z2, xs, rel, dd⟩ := dd_of I.hok he (fun p m => (hks p m).is I)
    have hz : xs.length ≤ sizeLine := by rw [← Paired.length rel]; exact z1
    refine wpAny_dictSet_heap (knd := Dkd.dataKind) (hsz := hz) (by show X.A.units + 8 < cLine; omega) (hk.is I) dd fun h' dd' hs => ?_
    obtain ⟨q, es, ep', hq, h2, h3, h4, _, h5⟩ := dd'
    refine ⟨_, ?_, hn ep'⟩
    exact d_write I (by rw [he]; exact True.intro) hs ⟨q, hq⟩ (dd_ext ⟨by have := putE_len vs k b z; omega, z2, _, rel.put k b rz, q, es, hq, h2, h3, h4, h5⟩)
def tDcE (K : PySem.W.Frag) (w : World) (wi : TI) (g : TG) (tt : TT) (tk tv : TE) (vs : List Nat) : TE := tDcG (empE w) (stoE K w) wi g tt tk tv vs
section
variable {X : Cx} {kx vx tg iter : Expr} {ifs : List Expr} {scope : Scope} {own : List (Str × Nat)} {pos : Pos} {wi : TI} {g : TG} {tt : TT} {tk tv : TE} {K : PySem.W.Frag} {w : World} (hK : X.K = K) (hw : X.w = w) (hu : X.A.units + 20 < cLine) (hc : X.calm = true) (hN : X.N.Nodup)
include hK hw hu hc hN
theorem pe_dcE (hi : PI X tg iter wi) (ok : BlkOk X.N X.env.scope scope own)
    (hg : ∀ (s : Shared) (H : Hp) (C : Addr) (cl : List (Str × Addr)) (fp : List Addr), PG (X.blk s H scope (compEnvC scope cl C X.env) fp) tg g) (ht : ∀ (s : Shared) (H : Hp) (C : Addr) (cl : List (Str × Addr)) (fp : List Addr), PTs (X.blk s H scope (compEnvC scope cl C X.env) fp) ifs tt)
    (hk : ∀ (s : Shared) (H : Hp) (C : Addr) (cl : List (Str × Addr)) (fp : List Addr), PE (X.blk s H scope (compEnvC scope cl C X.env) fp) kx tk)
    (he : ∀ (s : Shared) (H : Hp) (C : Addr) (cl : List (Str × Addr)) (fp : List Addr), PE (X.blk s H scope (compEnvC scope cl C X.env) fp) vx tv) (hs : ∀ x, foldedSetIterable iter X.env x = pure x := by intro _; rfl) :
    PE X (.DictComp kx vx [⟨tg, iter, ifs, 0⟩] scope pos) (tDcE K w wi g tt tk tv (own.map (·.2))) := by
  subst hK hw
  exact pe_dcG (rightE X.prog X.w X.K) hu hc hN hi ok hg ht hk he hs
theorem ps_setDcE {i : Nat} {y : Str} {py spos : Pos} (hy : X.N[i]? = some y) (hyl : X.env.scope.names.lookup y = some .local) (hsw : swapsWith (.DictComp kx vx [⟨tg, iter, ifs, 0⟩] scope pos) (some (.Name y py)) spos.line X.env = pure true) (hi : PI X tg iter wi) (ok : BlkOk X.N X.env.scope scope own)
    (hg : ∀ (s : Shared) (H : Hp) (C : Addr) (cl : List (Str × Addr)) (fp : List Addr), PG (X.blk s H scope (compEnvC scope cl C X.env) fp) tg g) (ht : ∀ (s : Shared) (H : Hp) (C : Addr) (cl : List (Str × Addr)) (fp : List Addr), PTs (X.blk s H scope (compEnvC scope cl C X.env) fp) ifs tt)
    (hk : ∀ (s : Shared) (H : Hp) (C : Addr) (cl : List (Str × Addr)) (fp : List Addr), PE (X.blk s H scope (compEnvC scope cl C X.env) fp) kx tk)
    (he : ∀ (s : Shared) (H : Hp) (C : Addr) (cl : List (Str × Addr)) (fp : List Addr), PE (X.blk s H scope (compEnvC scope cl C X.env) fp) vx tv) (hs : ∀ x, foldedSetIterable iter X.env x = pure x := by intro _; rfl) :
    PS X (.Assign [.Name y py] (.DictComp kx vx [⟨tg, iter, ifs, 0⟩] scope pos) spos) (tAsg (tDcE K w wi g tt tk tv (own.map (·.2))) (gName i)) := by
  subst hK hw
  exact ps_setDcG (rightE X.prog X.w X.K) hu hc hN hi ok hg ht hk he hy hyl hsw hs
end
theorem hu20 {A : Around} {k : Nat} (hr : Room k A) : A.units + 20 < cLine := by
  have := hu100 hr
  omega
section
variable {K : PySem.W.Frag} [Tb K] {Γ : List (Option Av)} {Ω : AH} {g : TG} {tt : TT} {tk tv : TE} {w : World}
theorem e_dc {wi : TI} {vs : List Nat} {P : Av → AH → Prop} (hg : GN g vs) (M : Addr → List Av → Nat → AH → Prop)
    (h : IW K wi Γ Ω fun as Ω1 => ∀ D, Ω1.Off D → M D as 0 (puto Ω1 D (.dd w D [])) ∧
      (∀ i a Ω', as[i]? = some a → M D as i Ω' → GW K g a (wipeA Γ vs) Ω' fun Γ2 Ω2 => TW K tt Γ2 Ω2 fun b Ω3 =>
        (b = true → EW K tk Γ2 Ω3 fun y Ω4 => EW K tv Γ2 Ω4 fun z Ω5 => ∃ ds kvs, y = .dat (.tuple ds) ∧ KeyD ds ∧ Ω5.o D = some (.dd w D kvs) ∧ kvs.length < 100000 ∧ M D as (i + 1) (puto Ω5 D (.dd w D (putD kvs (.tuple ds) z)))) ∧ (b = false → M D as (i + 1) Ω3)) ∧
      ∀ Ω', M D as as.length Ω' → P (.ptr D) Ω') : EW K (tDcE K w wi g tt tk tv vs) Γ Ω P := fun F σ H Q k q =>
  h F σ H _ k fun as Ω1 H1 J hM k1 wk D nD => by
    obtain ⟨h0, hs, hd⟩ := hM D (k1.off nD)
    refine ⟨fun i m H' => m = as.length - i ∧ i ≤ as.length ∧ ∃ Ω', M D as i Ω' ∧ Ok K (Fz Ω1 H1) Ω' Γ σ H', ⟨_, rfl, Nat.zero_le _, _, h0, k1.re.newo nD (.dd .nil)⟩, ?_⟩
    rintro i m H' ⟨rfl, hi, Ω', hm, k'⟩
    by_cases hlt : i < as.length
    · obtain ⟨hgo, hy⟩ := wk.go Ω' H' k'.bare i _ (List.getElem?_eq_getElem hlt)
      refine .inr ⟨fun H2 => ∃ Ω2, M D as (i + 1) Ω2 ∧ Ok K (Fz Ω1 H1) Ω2 Γ σ H2, fun H2 ⟨Ω2, hm2, k2⟩ => ⟨_, by omega, rfl, by omega, Ω2, hm2, k2⟩, hgo, fun x H2 hyx => ?_⟩
      obtain ⟨s2, v2⟩ := hy x H2 hyx
      have k2 := k'.same s2
      refine hg x (L2.wipe σ vs) H2 _ _ (fun σ3 H3 l3 a3 q3 => ⟨wipe_agree l3 a3, q3⟩) ?_
      refine hs i _ Ω' (List.getElem?_eq_getElem hlt) hm (Fz Ω' H2) (L2.wipe σ vs) H2 x _ (k2.re.wipe vs) v2 fun Γ3 σ3 Ω3 H3 h3 k3 => ?_
      refine h3 (Fz Ω3 H3) σ3 H3 _ k3.re fun b Ω4 H4 h4 k4 => ?_
      have k4' : Ok K (Fz Ω1 H1) Ω4 Γ σ H4 := k2.back ((k4.anchor k3.fr).bare)
      cases b with
      | true =>
        refine h4.1 rfl (Fz Ω4 H4) σ3 H4 _ k4.re fun y v Ω5 H5 h5 k5 v5 => ?_
        refine h5 (Fz Ω5 H5) σ3 H5 _ k5.re fun z u Ω6 H6 ⟨ds, kvs, ey, hk, eD, hl, hn⟩ k6 v6 => ?_
        subst ey
        obtain ⟨b', rfl, dq⟩ := key_val v5
        obtain ⟨ep1, ws, e1, g1⟩ := dd_of' k6 eD
        have k6' : Ok K (Fz Ω1 H1) Ω6 Γ σ H6 := k4'.back ((k6.anchor k5.fr).bare)
        have dq6 := dq.same k6.fr
        exact ⟨b', .tuple ds, ws, rfl, ⟨hk, dq6.same fz_same⟩, ⟨⟨ep1, e1⟩, g1.at fz_same⟩, by rw [← Paired.length g1]; exact sz_lt hl, fun ep2 => ⟨_, hn, k6'.puto eD (.dd (g1.put hk dq6 v6))⟩⟩
      | false => exact ⟨Ω4, h4.2 rfl, k4'⟩
    · have ei : i = as.length := by omega
      subst ei
      exact .inl ⟨wk.stop Ω' H' k'.bare, q _ _ _ _ (hd Ω' hm) (k'.anchor k1.fr) (.ptr D)⟩
/-- what a map over xs stores -/
noncomputable def dcK {α : Type} (ko : α → List PyData) (vo : α → Av) (xs : List α) : List (PyData × Av) := xs.foldl (fun acc x => putD acc (.tuple (ko x)) (vo x)) []
theorem putD_len (kvs : List (PyData × Av)) (k : PyData) (a : Av) : (putD kvs k a).length ≤ kvs.length + 1 := by
  unfold putD
  split
  · rw [List.length_map]; omega
  · rw [List.length_append]; exact Nat.le_refl _
theorem dcK_snoc {α : Type} {ko : α → List PyData} {vo : α → Av} {xs : List α} {x : α} : dcK ko vo (xs ++ [x]) = putD (dcK ko vo xs) (.tuple (ko x)) (vo x) := by
  unfold dcK
  rw [List.foldl_append]
  rfl
theorem dcK_len' {α : Type} {ko : α → List PyData} {vo : α → Av} : ∀ (xs : List α) (acc : List (PyData × Av)), (xs.foldl (fun acc x => putD acc (.tuple (ko x)) (vo x)) acc).length ≤ acc.length + xs.length
  | [], acc => Nat.le_refl _
  | x :: xs, acc => by
    have h := dcK_len' (ko := ko) (vo := vo) xs (putD acc (.tuple (ko x)) (vo x))
    have := putD_len acc (.tuple (ko x)) (vo x)
    rw [List.foldl_cons, List.length_cons]
    omega
theorem dcK_len {α : Type} {ko : α → List PyData} {vo : α → Av} (xs : List α) : (dcK ko vo xs).length ≤ xs.length := by
  have := dcK_len' (ko := ko) (vo := vo) xs []
  simpa [dcK] using this
theorem valD_none {kvs : List (PyData × Av)} {k : PyData} (h : k ∉ kvs.map (·.1)) : valD kvs k = none := by
  unfold valD
  rw [Option.map_eq_none_iff, List.find?_eq_none]
  intro p hp q
  exact h (List.mem_map.mpr ⟨p, hp, of_decide_eq_true q⟩)
theorem dcK_nodup' {α : Type} {ko : α → List PyData} {vo : α → Av} : ∀ (xs : List α) (acc : List (PyData × Av)), (xs.map ko).Nodup → (∀ x ∈ xs, PyData.tuple (ko x) ∉ acc.map (·.1)) → xs.foldl (fun acc x => putD acc (.tuple (ko x)) (vo x)) acc = acc ++ xs.map fun x => (PyData.tuple (ko x), vo x)
  | [], acc, _, _ => by simp
  | x :: xs, acc, nd, hn => by
    rw [List.map_cons, List.nodup_cons] at nd
    have e : putD acc (.tuple (ko x)) (vo x) = acc ++ [(PyData.tuple (ko x), vo x)] := by
      unfold putD
      rw [if_neg]
      rw [valD_none (hn x List.mem_cons_self)]
      decide
    rw [List.foldl_cons, e, dcK_nodup' xs _ nd.2, List.append_assoc]
    · rfl
    · intro y hy hm
      rw [List.map_append, List.mem_append] at hm
      rcases hm with hm | hm
      · exact hn y (List.mem_cons_of_mem _ hy) hm
      · have e2 : PyData.tuple (ko y) = PyData.tuple (ko x) := by simpa using hm
        cases (PyData.tuple.inj e2 ▸ rfl : ko y = ko y)
        exact nd.1 (List.mem_map.mpr ⟨y, hy, PyData.tuple.inj e2⟩)
theorem dcK_nodup {α : Type} {ko : α → List PyData} {vo : α → Av} (xs : List α) (nd : (xs.map ko).Nodup) : dcK ko vo xs = xs.map fun x => (PyData.tuple (ko x), vo x) := by
  unfold dcK
  rw [dcK_nodup' xs [] nd (fun x _ h => by cases h), List.nil_append]
/-- nothing changes by a turn -/
theorem e_dcM {α : Type} {wi : TI} {vs : List Nat} {P : Av → AH → Prop} (xs : List α) (enc : α → Av) (ko : α → List PyData) (vo : α → PyData) (hg : GN g vs) (hz : xs.length ≤ 50000)
    (h : IW K wi Γ Ω fun as Ω1 => as = xs.map enc ∧ (∀ x Ω', x ∈ xs → (∀ q bs, Ω1 q = some bs → Ω' q = some bs) → GW K g (enc x) (wipeA Γ vs) Ω' fun Γ2 Ω2 => Ω2 = Ω' ∧ EW K tk Γ2 Ω2 fun y Ω3 => Ω3 = Ω' ∧ y = .dat (.tuple (ko x)) ∧ KeyD (ko x) ∧ EW K tv Γ2 Ω3 fun z Ω4 => Ω4 = Ω' ∧ z = .dat (vo x)) ∧
      ∀ D, Ω1.Off D → P (.ptr D) (puto Ω1 D (.dd w D (dcK ko (fun x => .dat (vo x)) xs)))) : EW K (tDcE K w wi g tYes tk tv vs) Γ Ω P := by
  refine e_dc hg (fun D as i Ω' => ∃ Ω1 : AH, Ω1.Off D ∧ as = xs.map enc ∧ Ω' = puto Ω1 D (.dd w D (dcK ko (fun x => .dat (vo x)) (xs.take i))) ∧ (∀ x Ω', x ∈ xs → (∀ q bs, Ω1 q = some bs → Ω' q = some bs) → GW K g (enc x) (wipeA Γ vs) Ω' fun Γ2 Ω2 => Ω2 = Ω' ∧ EW K tk Γ2 Ω2 fun y Ω3 => Ω3 = Ω' ∧ y = .dat (.tuple (ko x)) ∧ KeyD (ko x) ∧ EW K tv Γ2 Ω3 fun z Ω4 => Ω4 = Ω' ∧ z = .dat (vo x)) ∧
      P (.ptr D) (puto Ω1 D (.dd w D (dcK ko (fun x => .dat (vo x)) xs))))
    fun F σ H R k q => h F σ H R k fun as Ω1 H1 J ⟨e, hb, hp⟩ k1 wk => q as Ω1 H1 J (fun D nD => ⟨⟨Ω1, nD, e, rfl, hb, hp D nD⟩, fun i a Ω' ea hm => ?_, fun Ω' hm => ?_⟩) k1 wk
  · obtain ⟨Ω0, n0, e0, rfl, hb0, hp0⟩ := hm
    subst e0
    rw [List.getElem?_map] at ea
    obtain ⟨x, ex, rfl⟩ := Option.map_eq_some_iff.mp ea
    have mx : x ∈ xs := List.mem_of_getElem? ex
    refine fun F' σ' H' v Q' k' v' q' => hb0 x (puto Ω0 D (.dd w D (dcK ko (fun x => .dat (vo x)) (xs.take i)))) mx (fun q bs hq => hq) F' σ' H' v Q' k' v' fun Γ2 σ2 Ω2 H2 ⟨e2, h2⟩ k2 => q' Γ2 σ2 Ω2 H2 ?_ k2
    subst e2
    refine t_yes ⟨fun _ => h2.mono fun y Ω3 ⟨e3, ey, hk, h3⟩ => ?_, fun z => by cases z⟩
    subst e3
    refine h3.mono fun z Ω4 ⟨e4, ez⟩ => ?_
    subst e4 ez
    refine ⟨ko x, _, ey, hk, puto_same, ?_, Ω0, n0, rfl, ?_, hb0, hp0⟩
    · have := dcK_len (ko := ko) (vo := fun x => Av.dat (vo x)) (xs.take i)
      rw [List.length_take] at this
      omega
    · rw [puto_puto, List.take_add_one, ex]
      show _ = puto Ω0 D (.dd w D (dcK ko _ (xs.take i ++ [x])))
      rw [dcK_snoc]
  · obtain ⟨Ω0, n0, e0, rfl, hb0, hp0⟩ := hm
    rw [e0, List.length_map, List.take_length]
    exact hp0
end
end Dat

set_option Elab.async false
set_option linter.all false
set_option maxRecDepth 100000
set_option maxHeartbeats 1000000
/-! l.index(x), l.pop(i) as calls; .index of a list that stays -/
namespace Dat
open PySem PySem.Spec PyProof.Rows L2
section
variable {X : Cx} {K : PySem.W.Frag} {o e : Expr} {to : TE} {t : TA} {apos cpos : Pos}
theorem idxQ (hK : X.K = K) (hu : X.A.units + 100 < cLine) (ho : PE X o to) (ha : PA X [e] t)
    (hbase : attributeBase o "index" X.env (eval o X.env) = eval o X.env := by rfl)
    (hfew : ((backTo cpos (starEach [e] X.env)).all (fun x => !x.1) && (backToKw cpos (keywordEach [] X.env)).all (fun x => x.1.isSome)
      && decide ([e].length + ([] : List Keyword).length + (if ([] : List Keyword).isEmpty then 0 else 1) < 30)) = true := by rfl)
    (hline : (apos.endLine == cpos.line) = true := by rfl) (hs : starEach [e] X.env = (false, eval e X.env) :: starEach [] X.env := by rfl) (hplain : (backTo cpos (starEach [] X.env)).any (·.1) = false := by rfl) :
    PE X (.Call (.Attribute o "index" apos) [e] [] cpos) (tBM K "list" (rIndexD K) to t) := by
  subst hK
  exact pe_bm PySem.F.plainAttrs_list PySem.F.slot_list_index PySem.F.type_list_index (mt_indexD (by omega)) ho ha hbase hfew hline hs hplain
theorem popQ (hK : X.K = K) (ho : PE X o to) (ha : PA X [e] t)
    (hbase : attributeBase o "pop" X.env (eval o X.env) = eval o X.env := by rfl)
    (hfew : ((backTo cpos (starEach [e] X.env)).all (fun x => !x.1) && (backToKw cpos (keywordEach [] X.env)).all (fun x => x.1.isSome)
      && decide ([e].length + ([] : List Keyword).length + (if ([] : List Keyword).isEmpty then 0 else 1) < 30)) = true := by rfl)
    (hline : (apos.endLine == cpos.line) = true := by rfl) (hs : starEach [e] X.env = (false, eval e X.env) :: starEach [] X.env := by rfl) (hplain : (backTo cpos (starEach [] X.env)).any (·.1) = false := by rfl) :
    PE X (.Call (.Attribute o "pop" apos) [e] [] cpos) (tBM K "list" rPopAt to t) := by
  subst hK
  exact pe_bm PySem.F.plainAttrs_list PySem.F.slot_list_pop PySem.F.type_list_pop mt_popAt ho ha hbase hfew hline hs hplain
end
section
variable {K : PySem.W.Frag} [Tb K] {Ω : AH} {Γ : List (Option Av)} {ta : TE} {tl : TA}
/-- the list one that stays -/
theorem e_idxDF {P : Av → AH → Prop} (h : EW K ta Γ Ω fun a Ω1 => ∃ ds, a = .dat (.list ds) ∧ AW K tl Γ Ω1 fun cs Ω2 => ∃ d e j, SeqAt.shaped (.list ds) = true ∧ cs = [.dat d] ∧ SeqAt.shaped d = true ∧ ds[j]? = some e ∧ PyData.eqv e d = true ∧ (∀ m e', m < j → ds[m]? = some e' → PyData.eqv e' d = false) ∧ P (.dat (.int (j : Nat))) Ω2) : EW K (tBM K "list" (rIndexD K) ta tl) Γ Ω P := fun F σ H Q k q =>
  h F σ H _ k fun a v Ω1 H1 ⟨ds, ea, h1⟩ k1 v1 => by
    subst ea
    cases v1 with | dat v1 =>
    cases v1 with | @lst p xs _ hs g =>
    refine ⟨.inl ⟨rfl, _, SqL.of (fz_same _ _ hs)⟩, h1 (Fz Ω1 H1) σ H1 _ k1.re fun cs vs Ω2 H2 ⟨d, e, j, sl, ec, sd, ej, ev, no, hp⟩ k2 v2 => ?_⟩
    subst ec
    cases v2 with | cons vb v2 =>
      cases v2
      cases vb with | dat vb =>
      have s2 := k2.fr.trans fz_same
      exact ⟨p, _, d, ds, j, e, rfl, rfl, (Dq.lst (s2 _ _ hs) (g.same s2)).dp (shaped_lay sl), (vb.same fz_same).dp (shaped_lay sd), sl, sd, ej, ev, no, q _ _ _ _ hp (k2.anchor k1.fr) (.dat (.int _))⟩
end
end Dat

set_option Elab.async false
set_option linter.all false
set_option maxRecDepth 100000
set_option maxHeartbeats 1000000
/-! list(range(..)), tuple(range(..)) -/
namespace Dat
open PySem PySem.Spec PyProof.Rows L2
def rgD (a b : Int) : List PyData := (List.range (b - a).toNat).map fun i => .int (a + (i : Nat))
section
variable {K : PySem.W.Frag} [Tb K] {Ω : AH} {Γ : List (Option Av)} {ta tb : TE} {P : Av → AH → Prop}
theorem rgV_dq {F : Hp} (a b : Int) : DqAll K F (rgV a b) (rgD a b) := by
  unfold rgV rgD
  generalize List.range (b - a).toNat = l
  induction l with
  | nil => exact .nil
  | cons x l ih => exact .cons (.int _) ih
/-- what a range is made of -/
def RGW (K : PySem.W.Frag) [Tb K] (t : L2.St → Hp → (Int → Int → Hp → Prop) → Prop) (Γ : List (Option Av)) (Ω : AH) (P : Int → Int → AH → Prop) : Prop :=
  ∀ (F : Hp) (σ : L2.St) (H : Hp) (Q : Int → Int → Hp → Prop), Ok K F Ω Γ σ H → (∀ a b Ω' H', P a b Ω' → Ok K F Ω' Γ σ H' → Q a b H') → t σ H Q
theorem rg_1 {P : Int → Int → AH → Prop} (h : EW K ta Γ Ω fun x Ω1 => ∃ n, x = .dat (.int n) ∧ P 0 n Ω1) : RGW K (tRg1 ta) Γ Ω P := fun F σ H Q k q =>
  h F σ H _ k fun a v Ω1 H1 ⟨n, ea, hp⟩ k1 v1 => by
    subst ea
    cases v1 with | dat v1 =>
    cases v1
    exact ⟨n, rfl, q _ _ _ _ hp k1⟩
theorem rg_2 {P : Int → Int → AH → Prop} (h : EW K ta Γ Ω fun x Ω1 => EW K tb Γ Ω1 fun y Ω2 => ∃ i j, x = .dat (.int i) ∧ y = .dat (.int j) ∧ P i j Ω2) : RGW K (tRg2 ta tb) Γ Ω P := fun F σ H Q k q =>
  h F σ H _ k fun a v Ω1 H1 h1 k1 v1 => h1 (Fz Ω1 H1) σ H1 _ k1.re fun b u Ω2 H2 ⟨i, j, ea, eb, hp⟩ k2 v2 => by
    subst ea eb
    cases v1 with | dat v1 =>
    cases v2 with | dat v2 =>
    cases v1
    cases v2
    exact ⟨i, j, rfl, rfl, q _ _ _ _ hp (k2.anchor k1.fr)⟩
theorem e_lstRg {t : L2.St → Hp → (Int → Int → Hp → Prop) → Prop} (h : RGW K t Γ Ω fun a b Ω1 => RgOk a b ∧ ∀ q, Ω1.Off q → P (.ptr q) (put Ω1 q ((rgD a b).map .dat))) : EW K (tLstRg t) Γ Ω P := fun F σ H Q k q =>
  h F σ H _ k fun a b Ω1 H1 ⟨ok, hp⟩ k1 => ⟨ok, fun u nu => q _ _ _ _ (hp u (k1.off nu)) (k1.new nu (.ofDats (rgV_dq a b))) (.ptr u)⟩
theorem e_tupRg {t : L2.St → Hp → (Int → Int → Hp → Prop) → Prop} (h : RGW K t Γ Ω fun a b Ω1 => RgOk a b ∧ P (.dat (.tuple (rgD a b))) Ω1) : EW K (tTupRg t) Γ Ω P := fun F σ H Q k q =>
  h F σ H _ k fun a b Ω1 H1 ⟨ok, hp⟩ k1 => ⟨ok, fun u nu => q _ _ _ _ hp (k1.same (same_new nu)) (.dat (tup_new k1 nu (rgV_dq a b)))⟩
end
end Dat

set_option Elab.async false
set_option linter.all false
set_option maxRecDepth 100000
set_option maxHeartbeats 1000000
/-! nested data of small integers: shown within bounds -/
namespace Shw
open PySem PySem.Spec PyProof.Rows L2
structure Sh (d : PyData) (k w : Nat) : Prop where
  s : d.showable = true
  n : d.hasDict = false
  k : d.depth ≤ k
  l : d.leavesShort 13 = true
  w : d.weight ≤ w
theorem Sh.mono {d : PyData} {k w k' w' : Nat} (h : Sh d k w) (hk : k ≤ k') (hw : w ≤ w') : Sh d k' w' := ⟨h.s, h.n, Nat.le_trans h.k hk, h.l, Nat.le_trans h.w hw⟩
theorem log_lt {n k : Nat} (h : n < 2 ^ k) : n = 0 ∨ n.log2 < k := by
  by_cases z : n = 0
  · exact .inl z
  · exact .inr ((Nat.log2_lt z).mpr h)
theorem Sh.int {i : Int} (h : i.natAbs < 10 ^ 12) : Sh (.int i) 0 40 := by
  have e : (10 : Nat) ^ 12 < 2 ^ 40 := by decide
  have hl := log_lt (k := 40) (Nat.lt_trans h e)
  refine ⟨?_, by simp [PyData.hasDict], by simp [PyData.depth], ?_, ?_⟩
  · show decide (i.natAbs.log2 < 1920) = true
    refine decide_eq_true ?_
    rcases hl with z | z
    · rw [z]
      decide
    · omega
  · simp only [PyData.leavesShort, decide_eq_true_eq]
    exact PyData.shown_int_le h
  · simp only [PyData.weight]
    split
    · omega
    · rcases hl with z | z
      · rw [z]
        decide
      · omega
theorem sh_all {k w : Nat} : ∀ {ds : List PyData}, (∀ d ∈ ds, Sh d k w) → PyData.showableAll ds = true ∧ PyData.hasDictAll ds = false ∧ PyData.depthAll ds ≤ k ∧ PyData.leavesShortAll 13 ds = true ∧ PyData.weightAll ds ≤ ds.length * (w + 1)
  | [], _ => ⟨by simp [PyData.showableAll], by simp [PyData.hasDictAll], by simp [PyData.depthAll], by simp [PyData.leavesShortAll], by simp [PyData.weightAll]⟩
  | d :: r, h => by
    obtain ⟨a, b, c, e, f⟩ := sh_all (ds := r) fun y m => h y (List.mem_cons_of_mem _ m)
    have g := h d List.mem_cons_self
    refine ⟨by simp [PyData.showableAll, g.s, a], by simp [PyData.hasDictAll, g.n, b], ?_, by simp [PyData.leavesShortAll, g.l, e], ?_⟩
    · simp only [PyData.depthAll]
      exact Nat.max_le.mpr ⟨g.k, c⟩
    · simp only [PyData.weightAll, List.length_cons]
      have := g.w
      have e2 : (r.length + 1) * (w + 1) = r.length * (w + 1) + (w + 1) := Nat.succ_mul _ _
      omega
theorem Sh.tup {ds : List PyData} {k w n : Nat} (h : ∀ d ∈ ds, Sh d k w) (hn : ds.length ≤ n) : Sh (.tuple ds) (k + 1) (n * (w + 1)) := by
  obtain ⟨a, b, c, e, f⟩ := sh_all h
  have m := Nat.mul_le_mul_right (w + 1) hn
  exact ⟨by simp only [PyData.showable, a], by simp only [PyData.hasDict, b], by simp only [PyData.depth]; omega, by simp only [PyData.leavesShort, e], by simp only [PyData.weight]; omega⟩
theorem Sh.lst {ds : List PyData} {k w n : Nat} (h : ∀ d ∈ ds, Sh d k w) (hn : ds.length ≤ n) : Sh (.list ds) (k + 1) (n * (w + 1)) := by
  obtain ⟨a, b, c, e, f⟩ := sh_all h
  have m := Nat.mul_le_mul_right (w + 1) hn
  exact ⟨by simp only [PyData.showable, a], by simp only [PyData.hasDict, b], by simp only [PyData.depth]; omega, by simp only [PyData.leavesShort, e], by simp only [PyData.weight]; omega⟩
theorem Sh.fits {d : PyData} {k w : Nat} (h : Sh d k w) (hw : w ≤ 2 ^ 20) : d.shown.length ≤ sizeLine := PyData.shown_fits (B := 13) (by decide) (by decide) h.l (Nat.le_trans h.w hw)
end Shw

set_option Elab.async false
set_option linter.all false
set_option maxRecDepth 100000
set_option maxHeartbeats 2000000
namespace Grd
open PySem PySem.Spec PyProof.Rows L2 LamX NdefX Clo
/-- the law's own call, from the head: one table (that of the code object cw), the script -/
theorem law_callG {P : Program} {w : World} {K : PySem.W.Frag} {mg mb : Str → Option Value} {k : Nat} {fa a cw Pw : Addr} {fd : FuncData} {x : Str} {sp : Sp} {s₁ : Shared} {vs : List Value} {ns : List Int}
    (KX : K.In s₁.heap) (hns : s₁.heap.Ns mainGlobals mg) (hb : s₁.heap.Ns builtinsNs mb) (hbb : ∀ x : Str, x ≠ "__name__" → mb x = bootBuiltins x) (hlim : s₁.heap.NoLimit) (hg : s₁.gens = #[])
    (hT : s₁.heap.get? Pw = some { cls := .none, data := .fields #[] }) (nT : K.lookup Pw = none) (C : PySem.W.CodeHd s₁.heap cw Pw)
    (hbm : ∃ (bm : Addr) (ob : Obj), mg "__builtins__" = some (.ref bm) ∧ bm ≠ builtinsNs ∧ s₁.heap.get? bm = some ob ∧ ob.cls = .type "module" ∧ ob.dict = some builtinsNs ∧ ob.data = .plain)
    (ha : s₁.heap.get? a = some { cls := .type "list", data := .seq vs.toArray }) (hi : IntsAre vs ns) (hl : ns.length ≤ sizeLine) (hr : Room k callerA)
    (F : ∀ base : Heap, K.In base → base.Ns mainGlobals mg → TabB base mg cw Pw → FnG P w K mg base CX0 k fa fd [x] sp) (hbind : ∀ (s : Shared) (u : Value), BindsTo s fd ⟨[u], []⟩ [(x, u)])
    (hsp : ∀ H : Hp, H Pw = some (.tbl #[]) → SqL K H a (ns.map V.int) → sp [.ref a] H (fun v _ => v = .bl true) fun _ _ _ => False) :
    codeAny (model P w) callerA (.call (.ref fa) ⟨[.ref a], []⟩) (fun r s' => r = .ok (.ret (.bool true)) ∧ OldK s₁.heap s'.heap ∧ s'.os = s₁.os ∧ AllBare s'.gens) s₁ := by
  have rv := vals_ints hi
  have lenV := hi.length
  have aP : a ≠ Pw := fun z => by
    rw [z, hT] at ha
    have z' : (Data.fields #[] : Data) = Data.seq vs.toArray _ := congrArg Obj.data (Option.some.inj ha)
    cases z'
  -- what is tracked: the table, and the script if the text has not written it
  obtain ⟨scr, hscr⟩ : ∃ scr : Option HO, scr = (match K.lookup a with | some _ => none | none => some (HO.frz { cls := .type "list", data := .seq vs.toArray } (.lst (ns.map V.int)))) := ⟨_, rfl⟩
  obtain ⟨H, hH⟩ : ∃ H : Hp, H = fun b => if b = Pw then some (.tbl #[]) else if b = a then scr else none := ⟨_, rfl⟩
  have HP : H Pw = some (.tbl #[]) := by
    rw [hH]
    exact if_pos rfl
  have Ha : H a = scr := by
    rw [hH]
    show (if a = Pw then _ else if a = a then scr else none) = scr
    rw [if_neg aP, if_pos rfl]
  have Hn : ∀ b, b ≠ Pw → b ≠ a → H b = none := fun b h1 h2 => by
    rw [hH]
    show (if b = Pw then _ else if b = a then scr else none) = none
    rw [if_neg h1, if_neg h2]
  have scrC : scr = none ∨ scr = some (HO.frz { cls := .type "list", data := .seq vs.toArray } (.lst (ns.map V.int))) := by
    rw [hscr]
    cases K.lookup a with
    | some o => exact .inl rfl
    | none => exact .inr rfl
  have free : ∀ {b : Addr} {o : Obj}, s₁.heap.get? b = some o → (∀ v n, o.data ≠ .seq v n) → o.data ≠ .fields #[] → H b = none := fun {b o} e h1 h2 => by
    refine Hn b (fun z => ?_) fun z => ?_
    · rw [z, hT] at e
      cases e
      exact h2 rfl
    · rw [z, ha] at e
      cases e
      exact h1 _ _ rfl
  have freeD : ∀ {b : Addr} {o : Obj} {es : Array DictEntry} {n : Nat}, s₁.heap.get? b = some o → o.data = .dict es n → H b = none := fun {b o es n} e d =>
    free e (fun v m z => by rw [d] at z; cases z) fun z => by rw [d] at z; cases z
  have ns_ : ∀ {b : Addr} {m : Str → Option Value}, s₁.heap.Ns b m → (hidT s₁.heap H).Ns b m := fun {b m} h => by
    obtain ⟨o, es, ep, e, d, r⟩ := h
    exact ⟨o, es, ep, hidT_get e (freeD e d), d, r⟩
  have kb : K.In (hidT s₁.heap H) := fun b o e => by
    refine hidT_get (KX b o e) ?_
    by_cases h1 : b = Pw
    · rw [h1, nT] at e
      cases e
    · by_cases h2 : b = a
      · rw [h2, Ha, hscr]
        rw [h2] at e
        rw [e]
      · exact Hn b h1 h2
  have hok : HOk P w H s₁.heap := fun b u e => by
    by_cases h1 : b = Pw
    · rw [h1, HP] at e
      cases e
      rw [h1]
      exact hT
    · by_cases h2 : b = a
      · rw [h2, Ha] at e
        rcases scrC with z | z
        · rw [z] at e
          cases e
        · rw [z] at e
          cases e
          rw [h2]
          exact ⟨ha, by rw [List.length_map]; exact hl, vs, _, rv, ha⟩
      · rw [Hn b h1 h2] at e
        cases e
  have md : L2.Mod K mg (hidT s₁.heap H) := by
    obtain ⟨mc, h1, h2⟩ := hlim
    exact ⟨kb, ns_ hns, ⟨mb, ns_ hb, hbb⟩, mc, ns_ h1, h2⟩
  have tb : TabB (hidT s₁.heap H) mg cw Pw := by
    constructor
    · obtain ⟨o, us, file, tf, flags, tg, inF, text, tt, e1, r1, r2, r3, r4, r5, r6, r7, r8, hne⟩ := C
      refine ⟨o, us, file, tf, flags, tg, inF, text, tt, hidT_get e1 (free e1 (fun v m z => ?_) fun z => ?_), r1, r2, r3, r4, r5, r6, r7, r8, hne⟩
      · rw [r2] at z
        cases z
      · rw [r2] at z
        cases z
        simp at r3
    · obtain ⟨bm, ob, b1, b2, b3, b4, b5, b6⟩ := hbm
      have nG : bm ≠ mainGlobals := fun z => by
        obtain ⟨o, es, ep, e, hd, _⟩ := hns
        rw [z, e] at b3
        cases b3
        rw [hd] at b6
        cases b6
      have nP : bm ≠ Pw := fun z => by
        rw [z, hT] at b3
        cases b3
        cases b6
      exact ⟨bm, ob, b1, b2, nG, nP, hidT_get b3 (free b3 (fun v m z => by rw [b6] at z; cases z) fun z => by rw [b6] at z; cases z), b4, b5, b6⟩
    · intro z
      obtain ⟨o, es, ep, e, hd, _⟩ := hns
      rw [z, hT] at e
      cases e
      cases hd
  have e0 : Env0 P w K mg (hidT s₁.heap H) callerA [] s₁ H := by
    refine ⟨rfl, md, fun b o e => of_hidT e, Nat.le_of_eq (hidT_size _ _), trivial, fun b hb => ?_, hok, .of_eq hg⟩
    cases (show b ∈ ([] : List Addr) from hb)
  have sq : SqL K H a (ns.map V.int) := by
    cases hk : K.lookup a with
    | some o =>
      have e := KX a o hk
      rw [ha] at e
      cases e
      exact .inr ⟨_, vs.toArray, _, hk, rfl, rfl, rfl, by rw [List.size_toArray, lenV]; exact hl, by simpa using rv⟩
    | none =>
      refine .inl (.inr ⟨{ cls := .type "list", data := .seq vs.toArray }, ?_⟩)
      rw [Ha, hscr, hk]
  refine codeAny_mono ((F _ kb (ns_ hns) tb).run callerA [] s₁ H ⟨[.ref a], []⟩ [.ref a] [.ref a] _ _ hr rfl e0 (hbind s₁ (.ref a)) (.cons rfl .nil) (hsp H HP sq)) fun r s' h => ?_
  cases r with
  | error e => exact (show False from h).elim
  | ok fl =>
    cases fl with
    | next => exact (show False from h).elim
    | brk => exact (show False from h).elim
    | cont => exact (show False from h).elim
    | ret u =>
      obtain ⟨v, H', os, bare, un, hok', r', q⟩ := h
      cases (show v = .bl true from q)
      cases (show u = Value.bool true from r')
      have key : ∀ b o, b ≠ Pw → s₁.heap.get? b = some o → s'.heap.get? b = some o := fun b o nb e => by
        by_cases h2 : b = a
        · rcases scrC with z | z
          · exact un.keep b o e (by rw [h2, Ha, z]) (fun q => by cases (show b ∈ ([] : List Addr) from q)) (fun q => by cases q)
          · have z1 : H b = some (HO.frz { cls := .type "list", data := .seq vs.toArray } (.lst (ns.map V.int))) := by rw [h2, Ha, z]
            obtain ⟨e1, _⟩ := hok b _ z1
            obtain ⟨e2, _⟩ := hok' b _ (un.frzs b _ _ z1)
            rw [e] at e1
            cases e1
            exact e2
        · exact un.keep b o e (Hn b nb h2) (fun q => by cases (show b ∈ ([] : List Addr) from q)) (fun q => by cases q)
      obtain ⟨more, zt⟩ := un.tbls Pw #[] HP
      have grown : s'.heap.get? Pw = some { cls := .none, data := .fields (#[] ++ more) } := hok' Pw _ zt
      refine ⟨rfl, ⟨fun b o e => ?_, fun b o e => ?_⟩, os, bare⟩
      · by_cases h1 : b = Pw
        · rw [h1] at e ⊢
          rw [hT] at e
          cases e
          exact .inr (.inl ⟨(C.tab hT).isCodeTable, rfl, #[], more, rfl, grown⟩)
        · exact .inl (key b o h1 e)
      · by_cases h1 : b = Pw
        · rw [h1]
          exact ⟨_, grown⟩
        · exact ⟨o, key b o h1 e⟩
/-- the end of a law's row -/
theorem walk_ofG {l : PySem.W.OpenLaw} {n k : Nat} {q : Program} {loose : List Str} {XP : (Str → Option Value) → Heap → Prop} {YP : World → Heap → Prop} {d : DefRec} {K : Params → PySem.W.Frag} {x : Str}
    (hn : l.most = some n) (hn2 : n ≤ sizeLine) (hdf : d.params.defaults = []) (hr : Room k callerA) (hY : ∀ (w : World) (h : Heap), YP w h → (K w.params).In h)
    (F : ∀ (w : World) (mg : Str → Option Value) (fa : Addr) (h : Heap), YP w h → (K w.params).In h → h.Ns mainGlobals mg → mg d.name = some (.ref fa) →
      ∃ (fd : FuncData) (cw Pw : Addr) (sp : Sp), h.get? Pw = some { cls := .none, data := .fields #[] } ∧ (K w.params).lookup Pw = none ∧ PySem.W.CodeHd h cw Pw ∧ (∀ (s : Shared) (u : Value), BindsTo s fd ⟨[u], []⟩ [(x, u)]) ∧
        (∀ (H : Hp) (a : Addr) (ns : List Int), ns.length ≤ n → H Pw = some (.tbl #[]) → SqL (K w.params) H a (ns.map V.int) → sp [.ref a] H (fun v _ => v = .bl true) fun _ _ _ => False) ∧
        ∀ base : Heap, (K w.params).In base → base.Ns mainGlobals mg → TabB base mg cw Pw → FnG l.prog w (K w.params) mg base CX0 k fa fd [x] sp) :
    PySem.W.WalkO q loose XP YP l.row.toRowW d [] (fun f vs => PySem.call f vs) := by
  refine Att.attach_callB hn hdf fun w s₀ s₁ mg mb fa o pm cd doc a vs ns G Y ho hd hcd hmg hobj hints hlen hbits hg => ?_
  have KX := hY w _ Y
  obtain ⟨fd, cw, Pw, sp, hT, nT, C, hb, hsp, hF⟩ := F w mg fa _ Y KX G.T.g hmg
  exact law_callG KX G.T.g G.T.b G.T.builtins G.T.nolimit hg hT nT C G.T.bmain hobj hints (Nat.le_trans hlen hn2) hr hF hb fun H hH hS => hsp H a ns hlen hH hS
end Grd

set_option Elab.async false
set_option linter.all false
set_option maxRecDepth 100000
set_option maxHeartbeats 4000000
namespace K05
open PySem PySem.Spec PyProof.Rows L2 Dat LamX NdefX Clo
def topS (i : Nat) : Stmt := PySem.Challenge.pw_parlourday_k05_walks_that_part_two_webs.main.body.getD i (.Pass ⟨0, 0, 0, 0⟩)
abbrev s_search : Stmt := topS 5
abbrev N_search : List Str := ["start", "leads", "steps", "found", "at", "place", "index", "target"]
theorem sc_search : FnScope ["start", "leads", "steps", "found", "at", "place", "index", "target"] ["start", "leads"] (defScope s_search) := ⟨rfl, rfl, rfl, by decide +kernel, rfl, by decide +kernel, by decide +kernel⟩
abbrev s_walk_back : Stmt := topS 6
abbrev N_walk_back : List Str := ["steps", "place", "walk", "index"]
theorem sc_walk_back : FnScope ["steps", "place", "walk", "index"] ["steps", "place"] (defScope s_walk_back) := ⟨rfl, rfl, rfl, by decide +kernel, rfl, by decide +kernel, by decide +kernel⟩
abbrev s_is_whole : Stmt := topS 8
abbrev N_is_whole : List Str := ["thing"]
theorem sc_is_whole : FnScope ["thing"] ["thing"] (defScope s_is_whole) := ⟨rfl, rfl, rfl, by decide +kernel, rfl, by decide +kernel, by decide +kernel⟩
abbrev s_is_whole_in : Stmt := topS 9
abbrev N_is_whole_in : List Str := ["thing", "low", "high"]
theorem sc_is_whole_in : FnScope ["thing", "low", "high"] ["thing", "low", "high"] (defScope s_is_whole_in) := ⟨rfl, rfl, rfl, by decide +kernel, rfl, by decide +kernel, by decide +kernel⟩
abbrev s_is_pair : Stmt := topS 10
abbrev N_is_pair : List Str := ["thing"]
theorem sc_is_pair : FnScope ["thing"] ["thing"] (defScope s_is_pair) := ⟨rfl, rfl, rfl, by decide +kernel, rfl, by decide +kernel, by decide +kernel⟩
abbrev s_is_web : Stmt := topS 15
abbrev N_is_web : List Str := ["thing", "node"]
theorem sc_is_web : FnScope ["thing", "node"] ["thing"] (defScope s_is_web) := ⟨rfl, rfl, rfl, by decide +kernel, rfl, by decide +kernel, by decide +kernel⟩
abbrev s_is_node : Stmt := topS 16
abbrev N_is_node : List Str := ["thing", "size", "move"]
theorem sc_is_node : FnScope ["thing", "size", "move"] ["thing", "size"] (defScope s_is_node) := ⟨rfl, rfl, rfl, by decide +kernel, rfl, by decide +kernel, by decide +kernel⟩
abbrev s_is_move : Stmt := topS 17
abbrev N_is_move : List Str := ["thing", "size"]
theorem sc_is_move : FnScope ["thing", "size"] ["thing", "size"] (defScope s_is_move) := ⟨rfl, rfl, rfl, by decide +kernel, rfl, by decide +kernel, by decide +kernel⟩
abbrev s_check_web : Stmt := topS 18
abbrev N_check_web : List Str := ["thing"]
theorem sc_check_web : FnScope ["thing"] ["thing"] (defScope s_check_web) := ⟨rfl, rfl, rfl, by decide +kernel, rfl, by decide +kernel, by decide +kernel⟩
abbrev s_walk_apart : Stmt := topS 19
abbrev N_walk_apart : List Str := ["web", "other", "steps", "pair", "index"]
theorem sc_walk_apart : FnScope ["web", "other", "steps", "pair", "index"] ["web", "other"] (defScope s_walk_apart) := ⟨rfl, rfl, rfl, by decide +kernel, rfl, by decide +kernel, by decide +kernel⟩
abbrev s_pair_steps : Stmt := topS 20
abbrev N_pair_steps : List Str := ["web", "other", "move", "beside"]
theorem sc_pair_steps : FnScope ["web", "other", "move", "beside"] ["web", "other"] (defScope s_pair_steps) := ⟨rfl, rfl, rfl, by decide +kernel, rfl, by decide +kernel, by decide +kernel⟩
abbrev s_index_apart : Stmt := topS 21
abbrev N_index_apart : List Str := ["moves", "others", "index", "move", "beside"]
theorem sc_index_apart : FnScope ["moves", "others", "index", "move", "beside"] ["moves", "others"] (defScope s_index_apart) := ⟨rfl, rfl, rfl, by decide +kernel, rfl, by decide +kernel, by decide +kernel⟩
abbrev s_difference : Stmt := topS 22
abbrev N_difference : List Str := ["web", "other", "pairs", "node", "beside", "places", "pair", "place", "found"]
theorem sc_difference : FnScope ["web", "other", "pairs", "node", "beside", "places", "pair", "place", "found"] ["web", "other"] (defScope s_difference) := ⟨rfl, rfl, rfl, by decide +kernel, rfl, by decide +kernel, by decide +kernel⟩
abbrev s_node_less : Stmt := topS 23
abbrev N_node_less : List Str := ["moves", "others", "places", "move", "beside"]
theorem sc_node_less : FnScope ["moves", "others", "places", "move", "beside"] ["moves", "others", "places"] (defScope s_node_less) := ⟨rfl, rfl, rfl, by decide +kernel, rfl, by decide +kernel, by decide +kernel⟩
abbrev s__law_hand : Stmt := topS 25
abbrev N__law_hand : List Str := ["_law_script"]
theorem sc__law_hand : FnScope ["_law_script"] ["_law_script"] (defScope s__law_hand) := ⟨rfl, rfl, rfl, by decide +kernel, rfl, by decide +kernel, by decide +kernel⟩
abbrev s__law_draw : Stmt := topS 26
abbrev N__law_draw : List Str := ["_law_hand_here", "_law_size", "_law_value", "_law_cell", "_law_mixed"]
theorem sc__law_draw : FnScope ["_law_hand_here", "_law_size", "_law_value", "_law_cell", "_law_mixed"] ["_law_hand_here", "_law_size"] (defScope s__law_draw) := ⟨rfl, rfl, rfl, by decide +kernel, rfl, by decide +kernel, by decide +kernel⟩
abbrev s__law_web : Stmt := topS 27
abbrev N__law_web : List Str := ["_law_hand_here", "_law_most", "_law_many", "_law_size", "_law_found", "_law_node", "_law_moves", "_law_some", "_law_turn"]
theorem sc__law_web : FnScope ["_law_hand_here", "_law_most", "_law_many", "_law_size", "_law_found", "_law_node", "_law_moves", "_law_some", "_law_turn"] ["_law_hand_here", "_law_most"] (defScope s__law_web) := ⟨rfl, rfl, rfl, by decide +kernel, rfl, by decide +kernel, by decide +kernel⟩
abbrev s__law_sum : Stmt := topS 29
abbrev N__law_sum : List Str := ["_law_net", "_law_walk_here", "_law_node", "_law_total", "_law_index"]
theorem sc__law_sum : FnScope ["_law_net", "_law_walk_here", "_law_node", "_law_total", "_law_index"] ["_law_net", "_law_walk_here"] (defScope s__law_sum) := ⟨rfl, rfl, rfl, by decide +kernel, rfl, by decide +kernel, by decide +kernel⟩
abbrev s__law_other : Stmt := topS 30
abbrev N__law_other : List Str := ["_law_hand_here", "_law_net", "_law_way", "_law_many", "_law_rows", "_law_weight", "_law_target", "_law_k", "_law_names", "_law_order", "_law_found", "_law_node", "_law_at", "_law_move"]
theorem sc__law_other : FnScope ["_law_hand_here", "_law_net", "_law_way", "_law_many", "_law_rows", "_law_weight", "_law_target", "_law_k", "_law_names", "_law_order", "_law_found", "_law_node", "_law_at", "_law_move"] ["_law_hand_here", "_law_net"] (defScope s__law_other) := ⟨rfl, rfl, rfl, by decide +kernel, rfl, by decide +kernel, by decide +kernel⟩
abbrev s__law_pairs : Stmt := topS 31
abbrev N__law_pairs : List Str := ["_law_net", "_law_twin", "_law_found", "_law_rows", "_law_at", "_law_one", "_law_two", "_law_index", "_law_pair"]
theorem sc__law_pairs : FnScope ["_law_net", "_law_twin", "_law_found", "_law_rows", "_law_at", "_law_one", "_law_two", "_law_index", "_law_pair"] ["_law_net", "_law_twin"] (defScope s__law_pairs) := ⟨rfl, rfl, rfl, by decide +kernel, rfl, by decide +kernel, by decide +kernel⟩
abbrev s__law_difference : Stmt := topS 32
abbrev N__law_difference : List Str := ["_law_net", "_law_twin", "_law_found", "_law_at", "_law_one", "_law_two", "_law_index", "_law_pair", "_law_nodes", "_law_moves", "_law_far", "_law_node", "_law_weight", "_law_target"]
theorem sc__law_difference : FnScope ["_law_net", "_law_twin", "_law_found", "_law_at", "_law_one", "_law_two", "_law_index", "_law_pair", "_law_nodes", "_law_moves", "_law_far", "_law_node", "_law_weight", "_law_target"] ["_law_net", "_law_twin"] (defScope s__law_difference) := ⟨rfl, rfl, rfl, by decide +kernel, rfl, by decide +kernel, by decide +kernel⟩
abbrev s__law_told : Stmt := topS 33
abbrev N__law_told : List Str := ["_law_net", "_law_twin", "_law_found", "e"]
theorem sc__law_told : FnScope ["_law_net", "_law_twin", "_law_found", "e"] ["_law_net", "_law_twin"] (defScope s__law_told) := ⟨rfl, rfl, rfl, by decide +kernel, rfl, by decide +kernel, by decide +kernel⟩
abbrev s__law_right : Stmt := topS 34
abbrev N__law_right : List Str := ["_law_net", "_law_twin", "_law_due", "_law_found", "_law_one", "_law_two", "_law_whole", "_law_told_here"]
theorem sc__law_right : FnScope ["_law_net", "_law_twin", "_law_due", "_law_found", "_law_one", "_law_two", "_law_whole", "_law_told_here"] ["_law_net", "_law_twin"] (defScope s__law_right) := ⟨rfl, rfl, rfl, by decide +kernel, rfl, by decide +kernel, by decide +kernel⟩
abbrev s_law : Stmt := topS 35
abbrev N_law : List Str := ["_law_script", "_law_hand_here", "_law_turn", "_law_net", "_law_twin", "_law_many", "_law_rounds", "_law_k", "_law_size", "_law_at", "_law_line", "_law_late"]
theorem sc_law : FnScope ["_law_script", "_law_hand_here", "_law_turn", "_law_net", "_law_twin", "_law_many", "_law_rounds", "_law_k", "_law_size", "_law_at", "_law_line", "_law_late"] ["_law_script"] (defScope s_law) := ⟨rfl, rfl, rfl, by decide +kernel, rfl, by decide +kernel, by decide +kernel⟩
structure Top (P : Program) (K : PySem.W.Frag) (mg : Str → Option Value) where
  f_search : Addr
  d_search : FuncData
  D_search : DefAt K mg "search" s_search ["start", "leads"] [] f_search d_search
  f_walk_back : Addr
  d_walk_back : FuncData
  D_walk_back : DefAt K mg "walk_back" s_walk_back ["steps", "place"] [] f_walk_back d_walk_back
  f_is_whole : Addr
  d_is_whole : FuncData
  D_is_whole : DefAt K mg "is_whole" s_is_whole ["thing"] [] f_is_whole d_is_whole
  f_is_whole_in : Addr
  d_is_whole_in : FuncData
  D_is_whole_in : DefAt K mg "is_whole_in" s_is_whole_in ["thing", "low", "high"] [] f_is_whole_in d_is_whole_in
  f_is_pair : Addr
  d_is_pair : FuncData
  D_is_pair : DefAt K mg "is_pair" s_is_pair ["thing"] [] f_is_pair d_is_pair
  f_is_web : Addr
  d_is_web : FuncData
  D_is_web : DefAt K mg "is_web" s_is_web ["thing"] [] f_is_web d_is_web
  f_is_node : Addr
  d_is_node : FuncData
  D_is_node : DefAt K mg "is_node" s_is_node ["thing", "size"] [] f_is_node d_is_node
  f_is_move : Addr
  d_is_move : FuncData
  D_is_move : DefAt K mg "is_move" s_is_move ["thing", "size"] [] f_is_move d_is_move
  f_check_web : Addr
  d_check_web : FuncData
  D_check_web : DefAt K mg "check_web" s_check_web ["thing"] [] f_check_web d_check_web
  f_walk_apart : Addr
  d_walk_apart : FuncData
  D_walk_apart : DefAt K mg "walk_apart" s_walk_apart ["web", "other"] [] f_walk_apart d_walk_apart
  f_pair_steps : Addr
  d_pair_steps : FuncData
  cw : Addr
  D_pair_steps : DefC K mg "pair_steps" s_pair_steps ["web", "other"] [] f_pair_steps d_pair_steps cw
  f_index_apart : Addr
  d_index_apart : FuncData
  D_index_apart : DefAt K mg "index_apart" s_index_apart ["moves", "others"] [] f_index_apart d_index_apart
  f_difference : Addr
  d_difference : FuncData
  D_difference : DefAt K mg "difference" s_difference ["web", "other"] [] f_difference d_difference
  f_node_less : Addr
  d_node_less : FuncData
  D_node_less : DefAt K mg "node_less" s_node_less ["moves", "others", "places"] [] f_node_less d_node_less
  f__law_hand : Addr
  d__law_hand : FuncData
  D__law_hand : DefAt K mg "_law_hand" s__law_hand ["_law_script"] [] f__law_hand d__law_hand
  f__law_draw : Addr
  d__law_draw : FuncData
  D__law_draw : DefAt K mg "_law_draw" s__law_draw ["_law_hand_here", "_law_size"] [] f__law_draw d__law_draw
  f__law_web : Addr
  d__law_web : FuncData
  D__law_web : DefAt K mg "_law_web" s__law_web ["_law_hand_here", "_law_most"] [] f__law_web d__law_web
  f__law_sum : Addr
  d__law_sum : FuncData
  D__law_sum : DefAt K mg "_law_sum" s__law_sum ["_law_net", "_law_walk_here"] [] f__law_sum d__law_sum
  f__law_other : Addr
  d__law_other : FuncData
  D__law_other : DefAt K mg "_law_other" s__law_other ["_law_hand_here", "_law_net"] [] f__law_other d__law_other
  f__law_pairs : Addr
  d__law_pairs : FuncData
  D__law_pairs : DefAt K mg "_law_pairs" s__law_pairs ["_law_net", "_law_twin"] [] f__law_pairs d__law_pairs
  f__law_difference : Addr
  d__law_difference : FuncData
  D__law_difference : DefAt K mg "_law_difference" s__law_difference ["_law_net", "_law_twin"] [] f__law_difference d__law_difference
  f__law_told : Addr
  d__law_told : FuncData
  D__law_told : DefAt K mg "_law_told" s__law_told ["_law_net", "_law_twin"] [] f__law_told d__law_told
  f__law_right : Addr
  d__law_right : FuncData
  D__law_right : DefAt K mg "_law_right" s__law_right ["_law_net", "_law_twin"] [] f__law_right d__law_right
  b_len : mg "len" = none
  b_isinstance : mg "isinstance" = none
  b_abs : mg "abs" = none
  b_all : mg "all" = none
  b_max : mg "max" = none
  b_min : mg "min" = none
  b_any : mg "any" = none
  b_sorted : mg "sorted" = none
  b_repr : mg "repr" = none
  b_int : mg "int" = none
  b_bool : mg "bool" = none
  b_tuple : mg "tuple" = none
  b_list : mg "list" = none
  b_range : mg "range" = none
  b_enumerate : mg "enumerate" = none
  b_zip : mg "zip" = none
  t_MOST_NODES : Tok
  c_MOST_NODES : mg "MOST_NODES" = some (.int 120 t_MOST_NODES)
  t_MOST_MOVES : Tok
  c_MOST_MOVES : mg "MOST_MOVES" = some (.int 12 t_MOST_MOVES)
  t_MOST_WEIGHT : Tok
  c_MOST_WEIGHT : mg "MOST_WEIGHT" = some (.int 1000000 t_MOST_WEIGHT)
  KN_walk_apart__other_web : KBn K d_walk_apart ["web", "other"] 0 ["other", "web"] (fun _ ws => kwU [1, 0] ws) (fun _ zs => kwV [1, 0] zs)
  KN_difference__other_web : KBn K d_difference ["web", "other"] 0 ["other", "web"] (fun _ ws => kwU [1, 0] ws) (fun _ zs => kwV [1, 0] zs)
  x_BadWeb : Addr
  Y_BadWeb : ExcDY K mg "BadWeb" x_BadWeb
  x_TooMany : Addr
  Y_TooMany : ExcDY K mg "TooMany" x_TooMany
  x_ParlourError : Addr
  m_ParlourError : mg "ParlourError" = some (.ref x_ParlourError)
  E_BadWeb : ExcC K x_BadWeb
  E_TooMany : ExcC K x_TooMany
  h_BadWeb : PySem.W.exmOne K (.ref x_BadWeb) (.ref x_ParlourError) = some true
  h_TooMany : PySem.W.exmOne K (.ref x_TooMany) (.ref x_ParlourError) = some true
  i_WW : PySem.W.kitOne K (.ref x_BadWeb) (.ref x_BadWeb) = some true
  i_WT : PySem.W.kitOne K (.ref x_BadWeb) (.ref x_TooMany) = some false
  i_TW : PySem.W.kitOne K (.ref x_TooMany) (.ref x_BadWeb) = some false
  i_TT : PySem.W.kitOne K (.ref x_TooMany) (.ref x_TooMany) = some true
end K05

set_option Elab.async false
set_option linter.all false
set_option maxRecDepth 100000
set_option maxHeartbeats 1000000
namespace K05
open PySem PySem.Spec PyProof.Rows L2 Dat
local macro_rules | `(tactic| trivial) => `(tactic| (first
  | (with_reducible refine s_seq ?_)
  | (with_reducible refine s_asg ?_)
  | (with_reducible refine s_ret ?_)
  | (with_reducible refine s_drop ?_)
  | (with_reducible refine s_next ?_)
  | (with_reducible refine s_retN ?_)
  | (with_reducible refine s_brk ?_)
  | (with_reducible refine s_cont ?_)
  | (with_reducible refine s_if ?_)
  | (with_reducible refine e_int ?_)
  | (with_reducible refine e_str ?_)
  | (with_reducible refine e_bl ?_)
  | (with_reducible refine e_non ?_)
  | (with_reducible refine e_ty ?_)
  | (with_reducible refine e_tupD ?_)
  | (with_reducible refine e_lstD ?_)
  | (with_reducible refine e_op ?_)
  | (with_reducible refine e_un ?_)
  | (with_reducible refine e_then ?_)
  | (with_reducible refine e_cb ?_)
  | (with_reducible refine e_call ?_)
  | (with_reducible refine e_if ?_)
  | (with_reducible refine e_chain ?_)
  | (with_reducible refine e_andV ?_)
  | (with_reducible refine e_orV ?_)
  | (with_reducible refine e_notV ?_)
  | (with_reducible refine a_cons ?_)
  | (with_reducible refine a_nil ?_)
  | (with_reducible refine t_test ?_)
  | (with_reducible refine t_B ?_)
  | (with_reducible refine t_not ?_)
  | (with_reducible refine t_and ?_)
  | (with_reducible refine t_or ?_)
  | (with_reducible refine r_I0i ?_)
  | (with_reducible refine r_I0b ?_)
  | (with_reducible refine r_neg ?_)
  | (with_reducible refine r_isN ?_)
  | (with_reducible refine r_notN ?_)
  | (with_reducible refine c_lenT ?_)
  | (with_reducible refine c_lenL ?_)
  | (with_reducible refine c_intI ?_)
  | (with_reducible refine c_intB ?_)
  | (with_reducible refine c_max2 ?_)
  | (with_reducible refine c_min2 ?_)
  | (with_reducible refine c_abs ?_)
  | (with_reducible refine r_tupL ?_)
  | (with_reducible refine r_tupT ?_)
  | (with_reducible refine c_allM ?_)
  | ((with_reducible apply e_var); (exact rfl))
  | ((with_reducible refine r_eq ?_ ?_); (exact rfl))
  | ((with_reducible refine r_ne ?_ ?_); (exact rfl))
  | (with_reducible refine c_isi kit_int ?_)
  | (with_reducible refine c_isi kit_bool ?_)
  | (with_reducible refine c_isi kit_tuple ?_)
  | (with_reducible refine c_isi kit_list ?_)
  | (with_reducible refine c_isi kit_str ?_)
  | ((with_reducible apply r_ixT); (exact rfl))
  | ((with_reducible apply dats_pack); (iterate 40 (first | exact Dats.nil | apply Dats.cons | skip)); (exact rfl))
  | (with_reducible refine s_asgG ?_) | (with_reducible refine g_name ?_) | ((with_reducible refine g_tup ?_ ?_); (exact rfl)) | (refine gs_nil ?_) | (refine gs_cons ?_) | (with_reducible refine ⟨rfl, ?_⟩)
  | (refine ⟨_, rfl, ?_⟩) | (refine ⟨_, _, rfl, ?_⟩) | (refine ⟨_, _, _, rfl, ?_⟩) | (with_reducible refine ⟨fun _ => ?_, fun _ => ?_⟩) | fail))
/-! ### what the program judges -/
def isWh : PyData → Bool
  | .int _ => true
  | _ => false
def inD (lo hi : Int) : PyData → Bool
  | .int i => decide (lo ≤ i) && decide (i ≤ hi)
  | _ => false
def pairD : PyData → Bool
  | .tuple ds => decide (ds.length = 2)
  | _ => false
section
variable {P : Program} {w : World} {K : PySem.W.Frag} [Tb K] {mg : Str → Option Value} {base : Heap}
theorem ok_is_whole (T : Top P K mg) : FnOk P w K mg base CX0 1 T.f_is_whole T.d_is_whole ["thing"] (spA K (spB isWh)) := by
  refine fnA_ok T.D_is_whole.F sc_is_whole (fun as Ω P ⟨d, e, _⟩ => by subst e; rfl) (fun cdv A outer s H E hr => ?_)
  refine ⟨_, (pss_one (ps_ret (pe_and (pe_callB (Dat.isiQ (K := K) rfl) rfl T.b_isinstance bt_isinstance (pa_cons (pv 0) (pa_cons (pe_bltn (v := .ty "int") rfl T.b_int bt_int rfl) pa_nil))) (pe_one (pe_not (pe_callB (Dat.isiQ (K := K) rfl) rfl T.b_isinstance bt_isinstance (pa_cons (pv 0) (pa_cons (pe_bltn (v := .ty "bool") rfl T.b_bool bt_bool rfl) pa_nil)))))))), ?_⟩
  rintro as Ω P ⟨d, rfl, h⟩
  repeat' trivial
  all_goals (cases d <;> simp_all [isIntD, isBoolD, isWh])
abbrev spIn : ASp := fun as Ω P => ∃ d lo hi, as = [.dat d, .dat (.int lo), .dat (.int hi)] ∧ P (.dat (.bool (inD lo hi d))) Ω
theorem ok_is_whole_in (T : Top P K mg) : FnOk P w K mg base CX0 2 T.f_is_whole_in T.d_is_whole_in ["thing", "low", "high"] (spA K spIn) := by
  have G_is_whole : FnOk P w K mg base CX0 1 T.f_is_whole T.d_is_whole ["thing"] (spA K (spB isWh)) := ok_is_whole T
  refine fnA_ok T.D_is_whole_in.F sc_is_whole_in (fun as Ω P ⟨d, lo, hi, e, _⟩ => by subst e; rfl) (fun cdv A outer s H E hr => ?_)
  refine ⟨_, (pss_one (ps_ret (pe_and (pe_call G_is_whole (hr.mono (by omega)) rfl T.D_is_whole.g T.D_is_whole.F.kp T.D_is_whole.b .nil pass0 (pa_cons (pv 0) pa_nil)) (pe_one (pe_chain op_le op_le (pv 1) (pv 0) (pv 2)))))), ?_⟩
  rintro as Ω P ⟨d, lo, hi, rfl, h⟩
  refine s_ret (e_andV (e_call (a_cons (e_var rfl (a_nil ⟨d, rfl, _, rfl, fun hw => ?_, fun hw => ?_⟩)))))
  · cases d <;> try (cases hw; done)
    repeat' trivial
    all_goals simp_all [inD]
  · cases d <;> simp_all [isWh, inD]
theorem ok_is_pair (T : Top P K mg) : FnOk P w K mg base CX0 1 T.f_is_pair T.d_is_pair ["thing"] (spA K (spB pairD)) := by
  refine fnA_ok T.D_is_pair.F sc_is_pair (fun as Ω P ⟨d, e, _⟩ => by subst e; rfl) (fun cdv A outer s H E hr => ?_)
  refine ⟨_, (pss_one (ps_ret (pe_and (pe_callB (Dat.isiQ (K := K) rfl) rfl T.b_isinstance bt_isinstance (pa_cons (pv 0) (pa_cons (pe_bltn (v := .ty "tuple") rfl T.b_tuple bt_tuple rfl) pa_nil))) (pe_one (pe_cmpR op_eq (pe_callB (Dat.lenQ (K := K) rfl) rfl T.b_len bt_len (pa_cons (pv 0) pa_nil)) pe_int (nomark _)))))), ?_⟩
  rintro as Ω P ⟨d, rfl, h⟩
  refine s_ret (e_andV (e_cb (a_cons (e_var rfl (a_cons (e_ty (a_nil (c_isi kit_tuple ⟨_, rfl, fun hw => ?_, fun hw => ?_⟩))))))))
  · cases d <;> try (cases hw; done)
    repeat' trivial
    refine cast (congrArg (fun b => P (Av.dat (.bool b)) Ω) ?_) h
    simp only [pairD, eqD]
    rw [decide_eq_decide]
    omega
  · cases d <;> simp_all [isTupD, pairD]
/-! ### webs -/
end
abbrev Mv := Int × Nat
abbrev Nd := List Mv
abbrev Web := List Nd
def mvD (m : Mv) : PyData := .tuple [.int m.1, .int (m.2 : Nat)]
def ndD (n : Nd) : PyData := .tuple (n.map mvD)
def webD (W : Web) : PyData := .tuple (W.map ndD)
structure WOk (W : Web) : Prop where
  l1 : 1 ≤ W.length
  l2 : W.length ≤ 120
  nd : ∀ n ∈ W, 1 ≤ n.length ∧ n.length ≤ 12
  mv : ∀ n ∈ W, ∀ m ∈ n, (-1000000 ≤ m.1 ∧ m.1 ≤ 1000000) ∧ m.2 < W.length
section
variable {P : Program} {w : World} {K : PySem.W.Frag} [Tb K] {mg : Str → Option Value} {base : Heap}
abbrev spMove : ASp := fun as Ω P => ∃ (m : Mv) (s : Nat), as = [.dat (mvD m), .dat (.int (s : Nat))] ∧ (-1000000 ≤ m.1 ∧ m.1 ≤ 1000000) ∧ m.2 < s ∧ P (.dat (.bool true)) Ω
theorem inD_yes {lo hi i : Int} (h1 : lo ≤ i) (h2 : i ≤ hi) : inD lo hi (.int i) = true := by
  simp only [inD, decide_eq_true h1, decide_eq_true h2, Bool.and_self]
theorem ok_is_move (T : Top P K mg) : FnOk P w K mg base CX0 3 T.f_is_move T.d_is_move ["thing", "size"] (spA K spMove) := by
  have G_is_whole_in : FnOk P w K mg base CX0 2 T.f_is_whole_in T.d_is_whole_in ["thing", "low", "high"] (spA K spIn) := ok_is_whole_in T
  have G_is_pair : FnOk P w K mg base CX0 1 T.f_is_pair T.d_is_pair ["thing"] (spA K (spB pairD)) := ok_is_pair T
  refine fnA_ok T.D_is_move.F sc_is_move (fun as Ω P ⟨m, s, e, _⟩ => by subst e; rfl) (fun cdv A outer s H E hr => ?_)
  refine ⟨_, (pss_cons (ps_if (pt_not (pt_val (pe_call G_is_pair (hr.mono (by omega)) rfl T.D_is_pair.g T.D_is_pair.F.kp T.D_is_pair.b .nil pass0 (pa_cons (pv 0) pa_nil))))
      (pss_one (ps_ret pe_bl))
      pss_nil)
    (pss_one (ps_ret (pe_and (pe_call G_is_whole_in (hr.mono (by omega)) rfl T.D_is_whole_in.g T.D_is_whole_in.F.kp T.D_is_whole_in.b .nil pass0 (pa_cons (pe_ix (Dat.ixT (K := K) rfl) (pv 0) pe_int (fun _ _ => rfl)) (pa_cons (pe_un un_neg (pe_glob (v := .int 1000000) rfl T.c_MOST_WEIGHT ⟨_, rfl⟩)) (pa_cons (pe_glob (v := .int 1000000) rfl T.c_MOST_WEIGHT ⟨_, rfl⟩) pa_nil)))) (pe_one (pe_call G_is_whole_in (hr.mono (by omega)) rfl T.D_is_whole_in.g T.D_is_whole_in.F.kp T.D_is_whole_in.b .nil pass0 (pa_cons (pe_ix (Dat.ixT (K := K) rfl) (pv 0) pe_int (fun _ _ => rfl)) (pa_cons pe_int (pa_cons (pe_op op_sub (pv 1) pe_int) pa_nil))))))))), ?_⟩
  rintro as Ω P ⟨m, s, rfl, ⟨h1, h2⟩, h3, h⟩
  refine s_seq (s_ifB (b := false) ?_ (fun z => by cases z) fun _ => s_next ?_)
  · exact t_notB (b1 := true) (t_ofB (e_call (a_cons (e_var rfl (a_nil ⟨_, rfl, rfl, rfl⟩)))))
  · refine s_ret (e_andV (e_call (a_cons (e_op (e_var rfl (e_int (r_ixT rfl (a_cons (e_un (e_int (r_neg (a_cons (e_int (a_nil ⟨_, _, _, rfl, true, by rw [inD_yes h1 h2], fun _ => ?_, nofun⟩))))))))))))))
    refine e_call (a_cons (e_op (e_var rfl (e_int (r_ixT rfl (a_cons (e_int (a_cons (e_op (e_var rfl (e_int (r_I0i (a_nil ⟨_, _, _, rfl, ?_⟩)))))))))))))
    rw [inD_yes (by omega) (by omega)]
    exact h
abbrev spNode : ASp := fun as Ω P => ∃ (n : Nd) (s : Nat), as = [.dat (ndD n), .dat (.int (s : Nat))] ∧ (1 ≤ n.length ∧ n.length ≤ 12) ∧ (∀ m ∈ n, (-1000000 ≤ m.1 ∧ m.1 ≤ 1000000) ∧ m.2 < s) ∧ P (.dat (.bool true)) Ω
theorem ok_is_node (T : Top P K mg) : FnOk P w K mg base CX0 4 T.f_is_node T.d_is_node ["thing", "size"] (spA K spNode) := by
  have G_is_move : FnOk P w K mg base CX0 3 T.f_is_move T.d_is_move ["thing", "size"] (spA K spMove) := ok_is_move T
  refine fnA_ok T.D_is_node.F sc_is_node (fun as Ω P ⟨m, s, e, _⟩ => by subst e; rfl) (fun cdv A outer s H E hr => ?_)
  refine ⟨_, (pss_cons (ps_if (pt_not (PW.pt (pw_and (pt_val (pe_callB (Dat.isiQ (K := K) rfl) rfl T.b_isinstance bt_isinstance (pa_cons (pv 0) (pa_cons (pe_bltn (v := .ty "tuple") rfl T.b_tuple bt_tuple rfl) pa_nil)))) (pw_and1 (pt_chain op_le op_le pe_int (pe_callB (Dat.lenQ (K := K) rfl) rfl T.b_len bt_len (pa_cons (pv 0) pa_nil)) (pe_glob (v := .int 12) rfl T.c_MOST_MOVES ⟨_, rfl⟩))))))
      (pss_one (ps_ret pe_bl))
      pss_nil)
    (pss_one (ps_ret (pe_callB (Dat.allQ (K := K) rfl rfl) rfl T.b_all bt_all (pa_cons (pe_lc (own := [("move", 2)]) (g := (gName 2)) (tt := tYes) rfl sc_is_node.nd (Dat.piT (K := K) rfl (pv 0)) (blkOk_by (N := N_is_node) (sc := defScope s_is_node) (by decide +kernel)) (fun _ _ _ _ _ => (pg_name (i := 2) sc_is_node.nd rfl (Or.inl rfl))) (fun _ _ _ _ _ => pts_nil) (fun _ _ _ _ _ => (pe_call G_is_move (hr.mono (by omega)) rfl T.D_is_move.g T.D_is_move.F.kp T.D_is_move.b .nil pass0 (pa_cons (pv 2) (pa_cons (pv 1) pa_nil))))) pa_nil))))), ?_⟩
  rintro as Ω P ⟨n, s, rfl, ⟨l1, l2⟩, hm, h⟩
  refine s_seq (s_ifB (b := !(true && true)) (t_notB (t_andB (t_ofB ?_) fun _ => t_ofC ?_)) (fun z => by cases z) fun _ => s_next ?_)
  · repeat' trivial
  · refine e_chain (e_int (e_cb (a_cons (e_var rfl (a_nil (c_lenT (r_I0b ⟨true, ?_, fun _ => e_int (r_I0b ⟨?_, rfl⟩), nofun⟩)))))))
    · rw [List.length_map, decide_eq_true (by omega)]
    · rw [List.length_map, decide_eq_true (by omega)]
  · refine s_ret (e_cb (a_cons (e_lcM n (fun m => .dat (mvD m)) (fun _ => .bool true) (gn_name (by decide)) (by omega) ?_)))
    refine i_tup (e_var rfl ⟨_, rfl, by rw [List.map_map]; rfl, fun x Ω' hx _ => g_name ⟨rfl, ?_⟩, ?_⟩)
    · exact e_call (a_cons (e_var rfl (a_cons (e_var rfl (a_nil ⟨x, s, rfl, (hm x hx).1, (hm x hx).2, rfl, rfl⟩)))))
    · refine a_nil (c_allM ?_)
      rw [List.all_eq_true.mpr fun _ _ => rfl]
      exact h
abbrev spWeb : ASp := fun as Ω P => ∃ W : Web, as = [.dat (webD W)] ∧ WOk W ∧ P (.dat (.bool true)) Ω
theorem ok_is_web (T : Top P K mg) : FnOk P w K mg base CX0 5 T.f_is_web T.d_is_web ["thing"] (spA K spWeb) := by
  have G_is_node : FnOk P w K mg base CX0 4 T.f_is_node T.d_is_node ["thing", "size"] (spA K spNode) := ok_is_node T
  refine fnA_ok T.D_is_web.F sc_is_web (fun as Ω P ⟨W, e, _⟩ => by subst e; rfl) (fun cdv A outer s H E hr => ?_)
  refine ⟨_, (pss_cons (ps_if (pt_not (PW.pt (pw_and (pt_val (pe_callB (Dat.isiQ (K := K) rfl) rfl T.b_isinstance bt_isinstance (pa_cons (pv 0) (pa_cons (pe_bltn (v := .ty "tuple") rfl T.b_tuple bt_tuple rfl) pa_nil)))) (pw_and1 (pt_chain op_le op_le pe_int (pe_callB (Dat.lenQ (K := K) rfl) rfl T.b_len bt_len (pa_cons (pv 0) pa_nil)) (pe_glob (v := .int 120) rfl T.c_MOST_NODES ⟨_, rfl⟩))))))
      (pss_one (ps_ret pe_bl))
      pss_nil)
    (pss_one (ps_ret (pe_callB (Dat.allQ (K := K) rfl rfl) rfl T.b_all bt_all (pa_cons (pe_lc (own := [("node", 1)]) (g := (gName 1)) (tt := tYes) rfl sc_is_web.nd (Dat.piT (K := K) rfl (pv 0)) (blkOk_by (N := N_is_web) (sc := defScope s_is_web) (by decide +kernel)) (fun _ _ _ _ _ => (pg_name (i := 1) sc_is_web.nd rfl (Or.inl rfl))) (fun _ _ _ _ _ => pts_nil) (fun _ _ _ _ _ => (pe_call G_is_node (hr.mono (by omega)) rfl T.D_is_node.g T.D_is_node.F.kp T.D_is_node.b .nil pass0 (pa_cons (pv 1) (pa_cons (pe_callB (Dat.lenQ (K := K) rfl) rfl T.b_len bt_len (pa_cons (pv 0) pa_nil)) pa_nil))))) pa_nil))))), ?_⟩
  rintro as Ω P ⟨W, rfl, o, h⟩
  have l1 := o.l1
  have l2 := o.l2
  refine s_seq (s_ifB (b := !(true && true)) (t_notB (t_andB (t_ofB ?_) fun _ => t_ofC ?_)) (fun z => by cases z) fun _ => s_next ?_)
  · repeat' trivial
  · refine e_chain (e_int (e_cb (a_cons (e_var rfl (a_nil (c_lenT (r_I0b ⟨true, ?_, fun _ => e_int (r_I0b ⟨?_, rfl⟩), nofun⟩)))))))
    · rw [List.length_map, decide_eq_true (by omega)]
    · rw [List.length_map, decide_eq_true (by omega)]
  · refine s_ret (e_cb (a_cons (e_lcM W (fun m => .dat (ndD m)) (fun _ => .bool true) (gn_name (by decide)) (by omega) ?_)))
    refine i_tup (e_var rfl ⟨_, rfl, by rw [List.map_map]; rfl, fun x Ω' hx _ => g_name ⟨rfl, ?_⟩, ?_⟩)
    · refine e_call (a_cons (e_var rfl (a_cons (e_cb (a_cons (e_var rfl (a_nil (c_lenT (a_nil ⟨x, W.length, ?_, o.nd x hx, o.mv x hx, rfl, rfl⟩)))))))))
      rw [List.length_map]
    · refine a_nil (c_allM ?_)
      rw [List.all_eq_true.mpr fun _ _ => rfl]
      exact h
abbrev spChkW : ASp := fun as Ω P => ∃ W : Web, as = [.dat (webD W)] ∧ WOk W ∧ P (.dat .none) Ω
theorem ok_check_web (T : Top P K mg) : FnOk P w K mg base CX0 6 T.f_check_web T.d_check_web ["thing"] (spA K spChkW) := by
  have G_is_web : FnOk P w K mg base CX0 5 T.f_is_web T.d_is_web ["thing"] (spA K spWeb) := ok_is_web T
  refine fnA_ok T.D_check_web.F sc_check_web (fun as Ω P ⟨d, e, _⟩ => by subst e; rfl) (fun cdv A outer s H E hr => ?_)
  refine ⟨_, (pss_one (ps_if (pt_not (pt_val (pe_call G_is_web (hr.mono (by omega)) rfl T.D_is_web.g T.D_is_web.F.kp T.D_is_web.b .nil pass0 (pa_cons (pv 0) pa_nil))))
      (pss_one ps_dead)
      pss_nil)), ?_⟩
  rintro as Ω P ⟨W, rfl, o, h⟩
  refine s_ifB (b := !true) (t_notB (t_ofC ?_)) (fun z => by cases z) fun _ => s_next h
  exact e_call (a_cons (e_var rfl (a_nil ⟨W, rfl, o, rfl, rfl⟩)))
end
end K05

set_option Elab.async false
set_option linter.all false
set_option maxRecDepth 100000
set_option maxHeartbeats 1000000
namespace K05
open PySem PySem.Spec PyProof.Rows L2 Dat
local macro_rules | `(tactic| trivial) => `(tactic| (first
  | (with_reducible refine s_seq ?_)
  | (with_reducible refine s_asg ?_)
  | (with_reducible refine s_ret ?_)
  | (with_reducible refine s_drop ?_)
  | (with_reducible refine s_next ?_)
  | (with_reducible refine s_retN ?_)
  | (with_reducible refine s_brk ?_)
  | (with_reducible refine s_cont ?_)
  | (with_reducible refine s_if ?_)
  | (with_reducible refine e_int ?_)
  | (with_reducible refine e_str ?_)
  | (with_reducible refine e_bl ?_)
  | (with_reducible refine e_non ?_)
  | (with_reducible refine e_ty ?_)
  | (with_reducible refine e_tupD ?_)
  | (with_reducible refine e_lstD ?_)
  | (with_reducible refine e_op ?_)
  | (with_reducible refine e_un ?_)
  | (with_reducible refine e_then ?_)
  | (with_reducible refine e_cb ?_)
  | (with_reducible refine e_call ?_)
  | (with_reducible refine e_if ?_)
  | (with_reducible refine e_chain ?_)
  | (with_reducible refine e_andV ?_)
  | (with_reducible refine e_orV ?_)
  | (with_reducible refine e_notV ?_)
  | (with_reducible refine a_cons ?_)
  | (with_reducible refine a_nil ?_)
  | (with_reducible refine t_test ?_)
  | (with_reducible refine t_B ?_)
  | (with_reducible refine t_not ?_)
  | (with_reducible refine t_and ?_)
  | (with_reducible refine t_or ?_)
  | (with_reducible refine r_I0i ?_)
  | (with_reducible refine r_I0b ?_)
  | (with_reducible refine r_neg ?_)
  | (with_reducible refine r_isN ?_)
  | (with_reducible refine r_notN ?_)
  | (with_reducible refine c_lenT ?_)
  | (with_reducible refine c_lenL ?_)
  | (with_reducible refine c_intI ?_)
  | (with_reducible refine c_intB ?_)
  | (with_reducible refine c_max2 ?_)
  | (with_reducible refine c_min2 ?_)
  | (with_reducible refine c_abs ?_)
  | (with_reducible refine r_tupL ?_)
  | (with_reducible refine r_tupT ?_)
  | (with_reducible refine c_allM ?_)
  | ((with_reducible apply e_var); (exact rfl))
  | ((with_reducible refine r_eq ?_ ?_); (exact rfl))
  | ((with_reducible refine r_ne ?_ ?_); (exact rfl))
  | (with_reducible refine c_isi kit_int ?_)
  | (with_reducible refine c_isi kit_bool ?_)
  | (with_reducible refine c_isi kit_tuple ?_)
  | (with_reducible refine c_isi kit_list ?_)
  | (with_reducible refine c_isi kit_str ?_)
  | ((with_reducible apply r_ixT); (exact rfl))
  | ((with_reducible apply dats_pack); (iterate 40 (first | exact Dats.nil | apply Dats.cons | skip)); (exact rfl))
  | (with_reducible refine s_asgG ?_) | (with_reducible refine g_name ?_) | ((with_reducible refine g_tup ?_ ?_); (exact rfl)) | (refine gs_nil ?_) | (refine gs_cons ?_) | (with_reducible refine ⟨rfl, ?_⟩)
  | (refine ⟨_, rfl, ?_⟩) | (refine ⟨_, _, rfl, ?_⟩) | (refine ⟨_, _, _, rfl, ?_⟩) | (with_reducible refine ⟨fun _ => ?_, fun _ => ?_⟩) | fail))
section
variable {P : Program} {w : World} {K : PySem.W.Frag} [Tb K] {mg : Str → Option Value} {base : Heap}
/-! ### the hand -/
theorem c_listS {Ω : AH} {ns : List Int} {P : Av → AH → Prop} (h : P (.dat (.list (ns.map PyData.int))) Ω) : RCW K (rListQ K) [.scr ns] Ω P := fun F H xs Q k hx q => by
  cases hx with
  | cons h1 hx =>
    cases hx
    cases h1 with
    | scr hs =>
      refine ⟨_, _, rfl, .inl (Fz_le.seq hs), fun l nl => ?_⟩
      exact q _ _ _ _ h (k.same (same_new nl)) (.dat (lst_new k nl DqAll.ofInts))
abbrev handL (ns : List Int) (i : Nat) (a s c : Int) : List Av := [.dat (.list (ns.map PyData.int)), .dat (.int ((i : Nat) : Int)), .dat (.int a), .dat (.int s), .dat (.int c)]
abbrev spHand : ASp := fun as Ω P => ∃ ns : List Int, as = [.scr ns] ∧ ∀ p, Ω p = none → P (.ptr p) (put Ω p (handL ns 0 0 0 0))
theorem ok_hand (T : Top P K mg) : FnOk P w K mg base CX0 1 T.f__law_hand T.d__law_hand ["_law_script"] (spA K spHand) := by
  refine fnA_ok T.D__law_hand.F sc__law_hand (fun as Ω P ⟨ns, e, _⟩ => by subst e; rfl) (fun cdv A outer s H E hr => ?_)
  refine ⟨_, (pss_one (ps_ret (pe_lst (pa_cons (pe_callTy (Dat.listQ (K := K) rfl) rfl T.b_list bt_list (pa_cons (pv 0) pa_nil)) (pa_cons pe_int (pa_cons pe_int (pa_cons pe_int (pa_cons pe_int pa_nil)))))))), ?_⟩
  rintro as Ω P ⟨ns, rfl, h⟩
  exact s_ret (e_lstP (a_cons (e_cb (a_cons (e_var rfl (a_nil (c_listS (a_cons (e_int (a_cons (e_int (a_cons (e_int (a_cons (e_int (a_nil ⟨by simp, fun p np => h p np⟩))))))))))))))))
abbrev spDrawM (M : Int) : ASp := fun as Ω P => ∃ (Ω0 : AH) (p : Addr) (m : Int) (ns : List Int) (i : Nat) (a s c : Int), as = [.ptr p, .dat (.int m)] ∧ Ω = put Ω0 p (handL ns i a s c) ∧ (0 ≤ s ∧ s < 2 ^ 32) ∧ 1 ≤ m ∧ m ≤ M ∧
  ∀ v i' a' s' c', 0 ≤ s' ∧ s' < 2 ^ 32 → 0 ≤ v → v < m → P (.dat (.int v)) (put Ω0 p (handL ns i' a' s' c'))
theorem ok_never {f : Addr} {fd : FuncData} {ps : List Str} {k : Nat} : FnOk P w K mg base CX0 k f fd ps (spA K fun _ _ _ => False) :=
  ⟨fun _ _ _ _ ⟨_, _, _, _, _, _, h, _⟩ => h.elim, fun _ _ _ _ _ _ _ _ _ _ _ _ _ ⟨_, _, _, _, _, _, h, _⟩ => h.elim⟩
theorem draw_step (T : Top P K mg) {k : Nat} {M : Int} {sp : ASp} (G__law_draw : FnOk P w K mg base CX0 k T.f__law_draw T.d__law_draw ["_law_hand_here", "_law_size"] (spA K sp)) (hM : M ≤ 3000000)
    (hsp : ∀ (Ω0 : AH) (p : Addr) (ns : List Int) (i : Nat) (a s c : Int) (P : Av → AH → Prop) (m : Int), 1000000 < m → m ≤ M → (0 ≤ s ∧ s < 2 ^ 32) → (∀ v i' a' s' c', 0 ≤ s' ∧ s' < 2 ^ 32 → P (.dat (.int v)) (put Ω0 p (handL ns i' a' s' c'))) → sp [.ptr p, .dat (.int (m / 10 ^ (6 : Int).toNat + 1))] (put Ω0 p (handL ns i a s c)) P) :
    FnOk P w K mg base CX0 (k + 1) T.f__law_draw T.d__law_draw ["_law_hand_here", "_law_size"] (spA K (spDrawM M)) := by
  refine fnA_ok T.D__law_draw.F sc__law_draw (fun as Ω P ⟨Ω0, p, m, ns, i, a, s, c, e, _⟩ => by subst e; rfl) (fun cdv A outer s H E hr => ?_)
  refine ⟨_, (pss_cons (ps_if (pt_cmpR op_gt (pe_ix (Dat.ixL (K := K) rfl) (pv 0) pe_int (fun _ _ => rfl)) pe_int (nomark _))
      (pss_cons (ps_set (i := 2) sc__law_draw.nd rfl (.inl rfl) (pe_op op_mod (pe_callTy Dat.cl_int rfl T.b_int bt_int (pa_cons (pe_ix (Dat.ixL (K := K) rfl) (pv 0) pe_int (fun _ _ => rfl)) pa_nil)) (pv 1)))
      (pss_cons (ps_asg (pe_op op_fdiv (pe_ix (Dat.ixL (K := K) rfl) (pv 0) pe_int (fun _ _ => rfl)) (pv 1)) (pg_sub (pv 0) pe_int set_list))
      (pss_one (ps_ret (pv 2)))))
      pss_nil)
    (pss_cons (ps_set (i := 3) sc__law_draw.nd rfl (.inl rfl) pe_int)
    (pss_cons (ps_if (pt_cmpR op_lt (pe_ix (Dat.ixL (K := K) rfl) (pv 0) pe_int (fun _ _ => rfl)) (pe_callB (Dat.lenQ (K := K) rfl) rfl T.b_len bt_len (pa_cons (pe_ix (Dat.ixL (K := K) rfl) (pv 0) pe_int (fun _ _ => rfl)) pa_nil)) (nomark _))
      (pss_cons (ps_set (i := 3) sc__law_draw.nd rfl (.inl rfl) (pe_ix (Dat.ixL (K := K) rfl) (pe_ix (Dat.ixL (K := K) rfl) (pv 0) pe_int (fun _ _ => rfl)) (pe_ix (Dat.ixL (K := K) rfl) (pv 0) pe_int (fun _ _ => rfl)) (fun _ _ => rfl)))
      (pss_one (ps_asg (pe_op op_add (pe_ix (Dat.ixL (K := K) rfl) (pv 0) pe_int (fun _ _ => rfl)) pe_int) (pg_sub (pv 0) pe_int set_list))))
      pss_nil)
    (pss_cons (ps_if (pt_cmpR op_ge (pe_callB Dat.cl_abs rfl T.b_abs bt_abs (pa_cons (pv 3) pa_nil)) (pe_op op_pow pe_int pe_int) (nomark _))
      (pss_cons (ps_asg (pe_op op_fdiv (pe_callB Dat.cl_abs rfl T.b_abs bt_abs (pa_cons (pv 3) pa_nil)) (pv 1)) (pg_sub (pv 0) pe_int set_list))
      (pss_one (ps_ret (pe_op op_mod (pe_callTy Dat.cl_int rfl T.b_int bt_int (pa_cons (pe_callB Dat.cl_abs rfl T.b_abs bt_abs (pa_cons (pv 3) pa_nil)) pa_nil)) (pv 1)))))
      pss_nil)
    (pss_cons (ps_asg (pe_op op_add (pe_ix (Dat.ixL (K := K) rfl) (pv 0) pe_int (fun _ _ => rfl)) pe_int) (pg_sub (pv 0) pe_int set_list))
    (pss_cons (ps_set (i := 4) sc__law_draw.nd rfl (.inl rfl) (pe_op op_mod (pe_callTy Dat.cl_int rfl T.b_int bt_int (pa_cons (pe_op op_add (pe_op op_add (pe_op op_add (pe_op op_mul (pe_ix (Dat.ixL (K := K) rfl) (pv 0) pe_int (fun _ _ => rfl)) pe_int) (pe_op op_mul (pv 3) pe_int)) (pe_op op_mul (pe_ix (Dat.ixL (K := K) rfl) (pv 0) pe_int (fun _ _ => rfl)) pe_int)) pe_int) pa_nil)) pe_int))
    (pss_cons (ps_set (i := 4) sc__law_draw.nd rfl (.inl rfl) (pe_op op_mod (pe_callTy Dat.cl_int rfl T.b_int bt_int (pa_cons (pe_op op_add (pe_op op_mul (pe_op op_mod (pe_op op_mul (pv 4) (pv 4)) pe_int) (pv 4)) (pv 3)) pa_nil)) pe_int))
    (pss_cons (ps_asg (pv 4) (pg_sub (pv 0) pe_int set_list))
    (pss_cons (ps_if (pt_cmpR op_gt (pv 1) (pe_op op_pow pe_int pe_int) (nomark _))
      (pss_one (ps_ret (pe_op op_mod (pe_callTy Dat.cl_int rfl T.b_int bt_int (pa_cons (pe_op op_add (pe_op op_mod (pe_op op_fdiv (pv 4) pe_int) (pe_op op_pow pe_int pe_int)) (pe_op op_mul (pe_op op_pow pe_int pe_int) (pe_call G__law_draw (hr.mono (by omega)) rfl T.D__law_draw.g T.D__law_draw.F.kp T.D__law_draw.b .nil pass0 (pa_cons (pv 0) (pa_cons (pe_op op_add (pe_op op_fdiv (pv 1) (pe_op op_pow pe_int pe_int)) pe_int) pa_nil))))) pa_nil)) (pv 1))))
      pss_nil)
    (pss_one (ps_ret (pe_op op_mod (pe_op op_fdiv (pv 4) pe_int) (pv 1))))))))))))), ?_⟩
  rintro as Ω P ⟨Ω0, p, m, ns, i, a, s, c, rfl, rfl, hs, m1, m2, h⟩
  have at1 : ∀ (j : Nat) (x y z : Int), atI (handL ns j x y z) 1 = some (.dat (.int ((j : Nat) : Int))) := fun _ _ _ _ => rfl
  have at2 : ∀ (j : Nat) (x y z : Int), atI (handL ns j x y z) 2 = some (.dat (.int x)) := fun _ _ _ _ => rfl
  have at3 : ∀ (j : Nat) (x y z : Int), atI (handL ns j x y z) 3 = some (.dat (.int y)) := fun _ _ _ _ => rfl
  have at4 : ∀ (j : Nat) (x y z : Int), atI (handL ns j x y z) 4 = some (.dat (.int z)) := fun _ _ _ _ => rfl
  have at0 : ∀ (j : Nat) (x y z : Int), atI (handL ns j x y z) 0 = some (.dat (.list (ns.map PyData.int))) := fun _ _ _ _ => rfl
  refine s_seq (s_if (t_test (e_op (e_op (e_var rfl (e_int (r_ixP put_same (at2 i a s c) (e_int (r_I0b ⟨_, rfl, fun _ => ?_, fun _ => s_next ?_⟩)))))))))
  · refine s_seq (s_asg (e_op (e_cb (a_cons (e_op (e_var rfl (e_int (r_ixP put_same (at2 i a s c) (a_nil (c_intI (e_var rfl (r_Ii (by show (0 : Int) < m; omega) ?_))))))))))))
    refine s_seq (s_setL (e_op (e_op (e_var rfl (e_int (r_ixP put_same (at2 i a s c) (e_var rfl (r_Ii (by exact ⟨by omega, by omega⟩) (e_var rfl ⟨p, rfl, e_int ⟨2, _, 2, rfl, put_same, rfl, ?_⟩⟩)))))))))
    refine s_ret (e_var rfl ?_)
    rw [put_put]
    exact h _ _ _ _ _ hs (Int.emod_nonneg _ (by omega)) (Int.emod_lt_of_pos _ (by omega))
  refine s_seq (s_asg (e_int ?_))
  refine s_seqM (fun Γ' Ω' => ∃ (cell : Int) (j : Nat), Γ' = [some (.ptr p), some (.dat (.int m)), none, some (.dat (.int cell)), none] ∧ Ω' = put Ω0 p (handL ns j a s c)) ?_ ?_
  · refine s_if (t_test (e_op (e_op (e_var rfl (e_int (r_ixP put_same (at1 i a s c) (e_cb (a_cons (e_op (e_var rfl (e_int (r_ixP put_same (at0 i a s c) (a_nil (c_lenL (r_I0b ⟨_, rfl, fun hb => ?_, fun _ => s_next ⟨_, i, rfl, rfl⟩⟩)))))))))))))))
    have hi : i < ns.length := by
      have := of_decide_eq_true hb
      rw [List.length_map] at this
      omega
    refine s_seq (s_asg (e_op (e_op (e_var rfl (e_int (r_ixP put_same (at0 i a s c) (e_op (e_var rfl (e_int (r_ixP put_same (at1 i a s c) (r_ixL (d := .int ns[i]) (atI_nat' (by rw [List.getElem?_map, List.getElem?_eq_getElem hi]; rfl)) ?_)))))))))))
    refine s_setL (e_op (e_op (e_var rfl (e_int (r_ixP put_same (at1 i a s c) (e_int (r_I0i (e_var rfl ⟨p, rfl, e_int ⟨1, _, 1, rfl, put_same, rfl, ?_⟩⟩))))))))
    rw [put_put]
    exact ⟨ns[i], i + 1, rfl, rfl⟩
  rintro Γ' Ω' ⟨cell, j, rfl, rfl⟩
  refine s_seq (s_if (t_test (e_op (e_cb (a_cons (e_var rfl (a_nil (c_abs (e_op (e_int (e_int (r_Ii (by exact ⟨by decide, by decide, by decide⟩) (r_I0b ⟨_, rfl, fun _ => ?_, fun hb => s_next ?_⟩)))))))))))))
  · refine s_seq (s_setL (e_op (e_cb (a_cons (e_var rfl (a_nil (c_abs (e_var rfl (r_Ii (by exact ⟨by omega, by omega⟩) (e_var rfl ⟨p, rfl, e_int ⟨2, _, 2, rfl, put_same, rfl, ?_⟩⟩))))))))))
    refine s_ret (e_op (e_cb (a_cons (e_cb (a_cons (e_var rfl (a_nil (c_abs (a_nil (c_intI (e_var rfl (r_Ii (by show (0 : Int) < m; omega) ?_))))))))))))
    rw [put_put]
    exact h _ _ _ _ _ hs (Int.emod_nonneg _ (by omega)) (Int.emod_lt_of_pos _ (by omega))
  have hc : -(10 ^ 18) < cell ∧ cell < 10 ^ 18 := by
    have := of_decide_eq_false hb
    have e : (10 : Int) ^ (18 : Int).toNat = 10 ^ 18 := rfl
    rw [e] at this
    split at this <;> omega
  refine s_seq (s_setL (e_op (e_op (e_var rfl (e_int (r_ixP put_same (at4 j a s c) (e_int (r_I0i (e_var rfl ⟨p, rfl, e_int ⟨4, _, 4, rfl, put_same, rfl, ?_⟩⟩)))))))))
  show SW K _ _ (put (put Ω0 p (handL ns j a s c)) p (handL ns j a s (c + 1))) _
  rw [put_put]
  refine s_seqM (fun Γ' Ω' => ∃ x : Int, 0 ≤ x ∧ x < 2147483563 ∧ Γ' = [some (.ptr p), some (.dat (.int m)), none, some (.dat (.int cell)), some (.dat (.int x))] ∧ Ω' = put Ω0 p (handL ns j a s (c + 1))) ?_ ?_
  · refine s_asg (e_op (e_cb (a_cons (e_op (e_op (e_op (e_op (e_op (e_var rfl (e_int (r_ixP put_same (at3 j a s (c + 1)) (e_int (r_Ii (by exact .inr ⟨by decide, by decide⟩) (e_op (e_var rfl (e_int (r_Ii (by exact .inr ⟨by decide, by decide⟩) (r_I0i (e_op (e_op (e_var rfl (e_int (r_ixP put_same (at4 j a s (c + 1)) (e_int (r_Ii (by exact .inr ⟨by decide, by decide⟩) (r_I0i (e_int (r_I0i ?_))))))))))))))))))))))))))))
    exact a_nil (c_intI (e_int (r_Ii (by show (0 : Int) < 2147483563; decide) ⟨_, Int.emod_nonneg _ (by decide), Int.emod_lt_of_pos _ (by decide), rfl, rfl⟩)))
  rintro Γ' Ω' ⟨x, x0, x1, rfl, rfl⟩
  refine s_seqM (fun Γ' Ω' => ∃ x : Int, 0 ≤ x ∧ x < 2147483399 ∧ Γ' = [some (.ptr p), some (.dat (.int m)), none, some (.dat (.int cell)), some (.dat (.int x))] ∧ Ω' = put Ω0 p (handL ns j a s (c + 1))) ?_ ?_
  · refine s_asg (e_op (e_cb (a_cons (e_op (e_op (e_op (e_op (e_var rfl (e_var rfl (r_Ii (by exact .inl ⟨by omega, by omega⟩) (e_int (r_Ii (by show (0 : Int) < 2147483399; decide) (e_var rfl (r_Ii (by exact .inr ⟨by omega, by omega⟩) (e_var rfl (r_I0i ?_))))))))))))))))
    exact a_nil (c_intI (e_int (r_Ii (by show (0 : Int) < 2147483399; decide) ⟨_, Int.emod_nonneg _ (by decide), Int.emod_lt_of_pos _ (by decide), rfl, rfl⟩)))
  rintro Γ' Ω' ⟨x, x0, x1, rfl, rfl⟩
  refine s_seq (s_setL (e_var rfl (e_var rfl ⟨p, rfl, e_int ⟨3, _, 3, rfl, put_same, rfl, ?_⟩⟩)))
  show SW K _ _ (put (put Ω0 p (handL ns j a s (c + 1))) p (handL ns j a x (c + 1))) _
  rw [put_put]
  refine s_seq (s_if (t_test (e_op (e_var rfl (e_op (e_int (e_int (r_Ii (by exact ⟨by decide, by decide, by decide⟩) (r_I0b ⟨_, rfl, fun hb => ?_, fun _ => s_next ?_⟩)))))))))
  · have hm : 1000000 < m := by
      have := of_decide_eq_true hb
      have e : (10 : Int) ^ (6 : Int).toNat = 1000000 := rfl
      rw [e] at this
      omega
    refine s_ret (e_op (e_cb (a_cons (e_op (e_op (e_op (e_var rfl (e_int (r_Ii (by exact ⟨by decide, by decide⟩) (e_op (e_int (e_int (r_Ii (by exact ⟨by decide, by decide, by decide⟩) (r_Ii (by show (0 : Int) < 10 ^ (6 : Int).toNat; decide) ?_))))))))))))))
    refine e_op (e_op (e_int (e_int (r_Ii (by exact ⟨by decide, by decide, by decide⟩) (e_call (a_cons (e_var rfl (a_cons (e_op (e_op (e_var rfl (e_op (e_int (e_int (r_Ii (by exact ⟨by decide, by decide, by decide⟩) (r_Ii (by exact ⟨by decide, by decide⟩) (e_int (r_I0i (a_nil ?_)))))))))))))))))))
    refine hsp Ω0 p ns j a x (c + 1) _ m hm m2 ⟨x0, by omega⟩ fun v i' a' s' c' hs' => ?_
    refine r_Ii (by exact .inl ⟨by decide, by decide⟩) (r_I0i (a_nil (c_intI (e_var rfl (r_Ii (by show (0 : Int) < m; omega) ?_)))))
    exact h _ _ _ _ _ hs' (Int.emod_nonneg _ (by omega)) (Int.emod_lt_of_pos _ (by omega))
  · refine s_ret (e_op (e_op (e_var rfl (e_int (r_Ii (by exact ⟨by decide, by decide⟩) (e_var rfl (r_Ii (by show (0 : Int) < m; omega) ?_)))))))
    exact h _ _ _ _ _ ⟨x0, by omega⟩ (Int.emod_nonneg _ (by omega)) (Int.emod_lt_of_pos _ (by omega))
theorem ok_draw1 (T : Top P K mg) : FnOk P w K mg base CX0 1 T.f__law_draw T.d__law_draw ["_law_hand_here", "_law_size"] (spA K (spDrawM 1000000)) :=
  draw_step T (k := 0) ok_never (by decide) fun Ω0 p ns i a s c P m h1 h2 => by omega
abbrev spDraw : ASp := spDrawM 2000001
theorem ok_draw (T : Top P K mg) : FnOk P w K mg base CX0 2 T.f__law_draw T.d__law_draw ["_law_hand_here", "_law_size"] (spA K spDraw) :=
  draw_step T (k := 1) (ok_draw1 T) (by decide) fun Ω0 p ns i a s c P m h1 h2 hs hp => by
    have e : (10 : Int) ^ (6 : Int).toNat = 1000000 := rfl
    rw [e]
    exact ⟨Ω0, p, _, ns, i, a, s, c, rfl, rfl, hs, by omega, by omega, fun v i' a' s' c' hs' _ _ => hp v i' a' s' c' hs'⟩
end
end K05

set_option Elab.async false
set_option linter.all false
set_option maxRecDepth 100000
set_option maxHeartbeats 1000000
namespace K05
open PySem PySem.Spec PyProof.Rows L2 Dat
local macro_rules | `(tactic| trivial) => `(tactic| (first
  | (with_reducible refine s_seq ?_)
  | (with_reducible refine s_asg ?_)
  | (with_reducible refine s_ret ?_)
  | (with_reducible refine s_drop ?_)
  | (with_reducible refine s_next ?_)
  | (with_reducible refine s_retN ?_)
  | (with_reducible refine s_brk ?_)
  | (with_reducible refine s_cont ?_)
  | (with_reducible refine s_if ?_)
  | (with_reducible refine e_int ?_)
  | (with_reducible refine e_str ?_)
  | (with_reducible refine e_bl ?_)
  | (with_reducible refine e_non ?_)
  | (with_reducible refine e_ty ?_)
  | (with_reducible refine e_tupD ?_)
  | (with_reducible refine e_lstD ?_)
  | (with_reducible refine e_op ?_)
  | (with_reducible refine e_un ?_)
  | (with_reducible refine e_then ?_)
  | (with_reducible refine e_cb ?_)
  | (with_reducible refine e_call ?_)
  | (with_reducible refine e_if ?_)
  | (with_reducible refine e_chain ?_)
  | (with_reducible refine e_andV ?_)
  | (with_reducible refine e_orV ?_)
  | (with_reducible refine e_notV ?_)
  | (with_reducible refine a_cons ?_)
  | (with_reducible refine a_nil ?_)
  | (with_reducible refine t_test ?_)
  | (with_reducible refine t_B ?_)
  | (with_reducible refine t_not ?_)
  | (with_reducible refine t_and ?_)
  | (with_reducible refine t_or ?_)
  | (with_reducible refine r_I0i ?_)
  | (with_reducible refine r_I0b ?_)
  | (with_reducible refine r_neg ?_)
  | (with_reducible refine r_isN ?_)
  | (with_reducible refine r_notN ?_)
  | (with_reducible refine c_lenT ?_)
  | (with_reducible refine c_lenL ?_)
  | (with_reducible refine c_intI ?_)
  | (with_reducible refine c_intB ?_)
  | (with_reducible refine c_max2 ?_)
  | (with_reducible refine c_min2 ?_)
  | (with_reducible refine c_abs ?_)
  | (with_reducible refine r_tupL ?_)
  | (with_reducible refine r_tupT ?_)
  | (with_reducible refine c_allM ?_)
  | ((with_reducible apply e_var); (exact rfl))
  | ((with_reducible refine r_eq ?_ ?_); (exact rfl))
  | ((with_reducible refine r_ne ?_ ?_); (exact rfl))
  | (with_reducible refine c_isi kit_int ?_)
  | (with_reducible refine c_isi kit_bool ?_)
  | (with_reducible refine c_isi kit_tuple ?_)
  | (with_reducible refine c_isi kit_list ?_)
  | (with_reducible refine c_isi kit_str ?_)
  | ((with_reducible apply r_ixT); (exact rfl))
  | ((with_reducible apply dats_pack); (iterate 40 (first | exact Dats.nil | apply Dats.cons | skip)); (exact rfl))
  | (with_reducible refine s_asgG ?_) | (with_reducible refine g_name ?_) | ((with_reducible refine g_tup ?_ ?_); (exact rfl)) | (refine gs_nil ?_) | (refine gs_cons ?_) | (with_reducible refine ⟨rfl, ?_⟩)
  | (refine ⟨_, rfl, ?_⟩) | (refine ⟨_, _, rfl, ?_⟩) | (refine ⟨_, _, _, rfl, ?_⟩) | (with_reducible refine ⟨fun _ => ?_, fun _ => ?_⟩) | fail))
def SOk (s : Int) : Prop := 0 ≤ s ∧ s < 2 ^ 32
section
variable {P : Program} {w : World} {K : PySem.W.Frag} [Tb K] {mg : Str → Option Value} {base : Heap}
/-- a draw from the hand in a slot -/
theorem e_draw {Γ : List (Option Av)} {Ω0 : AH} {p : Addr} {sl : Nat} {ns : List Int} {i : Nat} {a s c : Int} {te : TE} {X : XK} {P : Av → AH → Prop} (hi : Γ[sl]? = some (some (.ptr p)))
    (h : EW K te Γ (put Ω0 p (handL ns i a s c)) fun z Ω1 => ∃ m i1 a1 s1 c1, z = .dat (.int m) ∧ Ω1 = put Ω0 p (handL ns i1 a1 s1 c1) ∧ SOk s1 ∧ 1 ≤ m ∧ m ≤ 2000001 ∧ ∀ v i' a' s' c', SOk s' → 0 ≤ v → v < m → P (.dat (.int v)) (put Ω0 p (handL ns i' a' s' c'))) :
    EW K (tCall (spA K spDraw) [] X (tCons (tVar sl) (tCons te tNil))) Γ (put Ω0 p (handL ns i a s c)) P :=
  e_call (a_cons (e_var hi (a_cons (h.mono fun z Ω1 ⟨m, i1, a1, s1, c1, e1, e2, hs, m1, m2, q⟩ => a_nil ⟨Ω0, p, m, ns, i1, a1, s1, c1, by rw [e1], e2, hs, m1, m2, q⟩))))
theorem e_drawN {Γ : List (Option Av)} {Ω0 : AH} {p : Addr} {sl : Nat} {ns : List Int} {i : Nat} {m a s c : Int} {X : XK} {P : Av → AH → Prop} (hi : Γ[sl]? = some (some (.ptr p))) (hs : SOk s) (m1 : 1 ≤ m) (m2 : m ≤ 2000001)
    (h : ∀ v i' a' s' c', SOk s' → 0 ≤ v → v < m → P (.dat (.int v)) (put Ω0 p (handL ns i' a' s' c'))) :
    EW K (tCall (spA K spDraw) [] X (tCons (tVar sl) (tCons (tC (.int m)) tNil))) Γ (put Ω0 p (handL ns i a s c)) P :=
  e_draw hi (e_int ⟨m, i, a, s, c, rfl, rfl, hs, m1, m2, h⟩)
theorem e_drawV {Γ : List (Option Av)} {Ω0 : AH} {p : Addr} {sl j : Nat} {ns : List Int} {i : Nat} {m a s c : Int} {X : XK} {P : Av → AH → Prop} (hi : Γ[sl]? = some (some (.ptr p))) (hj : Γ[j]? = some (some (.dat (.int m)))) (hs : SOk s) (m1 : 1 ≤ m) (m2 : m ≤ 2000001)
    (h : ∀ v i' a' s' c', SOk s' → 0 ≤ v → v < m → P (.dat (.int v)) (put Ω0 p (handL ns i' a' s' c'))) :
    EW K (tCall (spA K spDraw) [] X (tCons (tVar sl) (tCons (tVar j) tNil))) Γ (put Ω0 p (handL ns i a s c)) P :=
  e_draw hi (e_var hj ⟨m, i, a, s, c, rfl, rfl, hs, m1, m2, h⟩)
abbrev spLWeb : ASp := fun as Ω P => ∃ (Ω0 : AH) (p : Addr) (m : Nat) (ns : List Int) (i : Nat) (a s c : Int), as = [.ptr p, .dat (.int ((m : Nat) : Int))] ∧ Ω = put Ω0 p (handL ns i a s c) ∧ Ω0 p = none ∧ SOk s ∧ 1 ≤ m ∧ m ≤ 8 ∧
  ∀ W i' a' s' c', SOk s' → WOk W → W.length ≤ 8 → P (.dat (webD W)) (put Ω0 p (handL ns i' a' s' c'))
theorem ok_law_web (T : Top P K mg) : FnOk P w K mg base CX0 3 T.f__law_web T.d__law_web ["_law_hand_here", "_law_most"] (spA K spLWeb) := by
  have G__law_draw : FnOk P w K mg base CX0 2 T.f__law_draw T.d__law_draw ["_law_hand_here", "_law_size"] (spA K spDraw) := ok_draw T
  refine fnA_ok T.D__law_web.F sc__law_web (fun as Ω P ⟨Ω0, p, m, ns, i, a, s, c, e, _⟩ => by subst e; rfl) (fun cdv A outer s H E hr => ?_)
  refine ⟨_, (pss_cons (ps_set (i := 2) sc__law_web.nd rfl (.inl rfl) (pe_op op_add pe_int (pe_call G__law_draw (hr.mono (by omega)) rfl T.D__law_draw.g T.D__law_draw.F.kp T.D__law_draw.b .nil pass0 (pa_cons (pv 0) (pa_cons (pv 1) pa_nil)))))
    (pss_cons (ps_set (i := 3) sc__law_web.nd rfl (.inl rfl) (pe_ix (Dat.ixL (K := K) rfl) (pe_lst (pa_cons pe_int (pa_cons pe_int (pa_cons pe_int (pa_cons (pe_op op_add (pe_op op_mul pe_int (pe_op op_pow pe_int pe_int)) pe_int) pa_nil))))) (pe_call G__law_draw (hr.mono (by omega)) rfl T.D__law_draw.g T.D__law_draw.F.kp T.D__law_draw.b .nil pass0 (pa_cons (pv 0) (pa_cons pe_int pa_nil))) (fun _ _ => rfl)))
    (pss_cons (ps_set (i := 4) sc__law_web.nd rfl (.inl rfl) (pe_lst pa_nil))
    (pss_cons (ps_for PassesOwn.never rfl (pi_range1 rfl T.b_range (pa_cons (pv 2) pa_nil)) (pg_name (i := 5) sc__law_web.nd rfl (.inl rfl))
      (pss_cons (ps_set (i := 6) sc__law_web.nd rfl (.inl rfl) (pe_lst pa_nil))
      (pss_cons (ps_set (i := 7) sc__law_web.nd rfl (.inl rfl) (pe_ix (Dat.ixL (K := K) rfl) (pe_lst (pa_cons (pe_op op_add pe_int (pe_call G__law_draw (hr.mono (by omega)) rfl T.D__law_draw.g T.D__law_draw.F.kp T.D__law_draw.b .nil pass0 (pa_cons (pv 0) (pa_cons pe_int pa_nil)))) (pa_cons (pe_op op_add pe_int (pe_call G__law_draw (hr.mono (by omega)) rfl T.D__law_draw.g T.D__law_draw.F.kp T.D__law_draw.b .nil pass0 (pa_cons (pv 0) (pa_cons pe_int pa_nil)))) pa_nil))) (pe_callTy Dat.cl_int rfl T.b_int bt_int (pa_cons (pe_cmpR op_eq (pe_call G__law_draw (hr.mono (by omega)) rfl T.D__law_draw.g T.D__law_draw.F.kp T.D__law_draw.b .nil pass0 (pa_cons (pv 0) (pa_cons pe_int pa_nil))) pe_int (nomark _)) pa_nil)) (fun _ _ => rfl)))
      (pss_cons (ps_for PassesOwn.never rfl (pi_range1 rfl T.b_range (pa_cons (pv 7) pa_nil)) (pg_name (i := 8) sc__law_web.nd rfl (.inl rfl))
        (pss_one (ps_expr (Dat.appQ (K := K) rfl (pv 6) (pa_cons (pe_tup (pa_cons (pe_op op_sub (pe_call G__law_draw (hr.mono (by omega)) rfl T.D__law_draw.g T.D__law_draw.F.kp T.D__law_draw.b .nil pass0 (pa_cons (pv 0) (pa_cons (pv 3) pa_nil))) (pe_op op_fdiv (pv 3) pe_int)) (pa_cons (pe_call G__law_draw (hr.mono (by omega)) rfl T.D__law_draw.g T.D__law_draw.F.kp T.D__law_draw.b .nil pass0 (pa_cons (pv 0) (pa_cons (pv 2) pa_nil))) pa_nil))) pa_nil)))))
      (pss_one (ps_expr (Dat.appQ (K := K) rfl (pv 4) (pa_cons (Dat.pe_tupleK (K := K) rfl rfl T.b_tuple (pv 6)) pa_nil))))))))
    (pss_one (ps_ret (Dat.pe_tupleK (K := K) rfl rfl T.b_tuple (pv 4)))))))), ?_⟩
  rintro as Ω P ⟨Ω0, p, m, ns, i, a, s, c, rfl, rfl, p0, hs, m1, m2, h⟩
  refine s_seq (s_asg (e_op (e_int (e_drawV rfl rfl hs (by omega) (by omega) fun v i a s c hs v0 v1 => r_I0i ?_))))
  obtain ⟨n, en⟩ : ∃ n : Nat, 1 + v = ((n : Nat) : Int) := ⟨(1 + v).toNat, by omega⟩
  rw [en]
  have n1 : 1 ≤ n := by omega
  have n8 : n ≤ 8 := by omega
  refine s_seqM (fun Γ' Ω' => ∃ (z : Int) (i : Nat) (a s c : Int), SOk s ∧ 1 ≤ z ∧ z ≤ 2000001 ∧ Γ' = [some (.ptr p), some (.dat (.int ((m : Nat) : Int))), some (.dat (.int ((n : Nat) : Int))), some (.dat (.int z)), none, none, none, none, none] ∧ Ω' = put Ω0 p (handL ns i a s c)) ?_ ?_
  · refine s_asg (e_op (e_lstD (a_cons (e_int (a_cons (e_int (a_cons (e_int (a_cons (e_op (e_op (e_int (e_op (e_int (e_int (r_Ii (by exact ⟨by decide, by decide, by decide⟩) (r_Ii (by exact .inl ⟨by decide, by decide⟩) (e_int (r_I0i (a_nil ⟨_, .cons (.cons (.cons (.cons .nil))), rfl, ?_⟩))))))))))))))))))))
    refine e_drawN rfl hs (by decide) (by decide) fun t i a s c hs t0 t1 => ?_
    refine r_ixL_any t0 (by simpa using t1) fun d hd => ?_
    have e6 : (2 * 10 ^ (6 : Int).toNat + 1 : Int) = 2000001 := by decide
    rw [e6] at hd
    simp only [List.mem_cons, List.not_mem_nil, or_false] at hd
    rcases hd with rfl | rfl | rfl | rfl
    · exact ⟨3, i, a, s, c, hs, by decide, by decide, rfl, rfl⟩
    · exact ⟨7, i, a, s, c, hs, by decide, by decide, rfl, rfl⟩
    · exact ⟨7, i, a, s, c, hs, by decide, by decide, rfl, rfl⟩
    · exact ⟨2000001, i, a, s, c, hs, by decide, by decide, rfl, rfl⟩
  rintro Γ' Ω' ⟨z, i, a, s, c, hs, z1, z2, rfl, rfl⟩
  refine s_seq (s_asg (e_lstP (a_nil ⟨by decide, fun f nf => ?_⟩)))
  have nf0 : f ≠ p := fun e => by rw [e, put_same] at nf; cases nf
  have f0 : Ω0 f = none := by rw [put_ne nf0] at nf; exact nf
  let ok1 (nd : Nd) : Prop := (1 ≤ nd.length ∧ nd.length ≤ 12) ∧ ∀ m ∈ nd, (-1000000 ≤ m.1 ∧ m.1 ≤ 1000000) ∧ m.2 < n
  refine s_seqM (fun Γ' Ω' => ∃ (W : Web) (i : Nat) (a s c : Int) (y5 y6 y7 y8 : Option Av), SOk s ∧ W.length = n ∧ (∀ nd ∈ W, ok1 nd) ∧ Γ' = [some (.ptr p), some (.dat (.int ((m : Nat) : Int))), some (.dat (.int ((n : Nat) : Int))), some (.dat (.int z)), some (.ptr f), y5, y6, y7, y8] ∧ Ω' = put (put Ω0 f ((W.map ndD).map .dat)) p (handL ns i a s c)) ?_ ?_
  · refine s_for (fun as j Γ' Ω' => as.length = n ∧ ∃ (W : Web) (i : Nat) (a s c : Int) (y5 y6 y7 y8 : Option Av), SOk s ∧ W.length = j ∧ (∀ nd ∈ W, ok1 nd) ∧ Γ' = [some (.ptr p), some (.dat (.int ((m : Nat) : Int))), some (.dat (.int ((n : Nat) : Int))), some (.dat (.int z)), some (.ptr f), y5, y6, y7, y8] ∧ Ω' = put (put Ω0 f ((W.map ndD).map .dat)) p (handL ns i a s c)) ?_
    refine i_rng1 (a_cons (e_var rfl (a_nil ⟨((n : Nat) : Int), rfl, ⟨by omega, by omega⟩, ⟨by (unfold rngA; rw [List.length_map, List.length_range]; omega), [], i, a, s, c, _, _, _, _, hs, rfl, nofun, rfl, Dat.put_comm nf0.symm⟩, ?_, ?_⟩)))
    · rintro j it Γ' Ω' hit ⟨las, W, i, a, s, c, y5, y6, y7, y8, hs, lW, oW, rfl, rfl⟩
      have hj := (List.getElem?_eq_some_iff.mp hit).1
      refine g_name (s_seq (s_asg (e_lstP (a_nil ⟨by decide, fun g ng => ?_⟩))))
      have gp : g ≠ p := fun e => by rw [e, put_same] at ng; cases ng
      rw [put_ne gp] at ng
      have gf : g ≠ f := fun e => by rw [e, put_same] at ng; cases ng
      rw [put_ne gf] at ng
      refine s_seqM (fun Γ' Ω' => ∃ (k : Nat) (i : Nat) (a s c : Int) (y8 : Option Av), SOk s ∧ 1 ≤ k ∧ k ≤ 12 ∧ Γ' = [some (.ptr p), some (.dat (.int ((m : Nat) : Int))), some (.dat (.int ((n : Nat) : Int))), some (.dat (.int z)), some (.ptr f), some it, some (.ptr g), some (.dat (.int ((k : Nat) : Int))), y8] ∧ Ω' = put (put (put Ω0 f ((W.map ndD).map .dat)) g []) p (handL ns i a s c)) ?_ ?_
      · rw [Dat.put_comm gp.symm]
        refine s_asg (e_op (e_lstD (a_cons (e_op (e_int (e_drawN rfl hs (by decide) (by decide) fun t i a s c hs t0 t1 => r_I0i ?_))))))
        refine a_cons (e_op (e_int (e_drawN rfl hs (by decide) (by decide) fun t2 i a s c hs u0 u1 => r_I0i (a_nil ⟨_, .cons (.cons .nil), rfl, ?_⟩))))
        refine e_cb (a_cons (e_op (e_drawN rfl hs (by decide) (by decide) fun t3 i a s c hs w0 w1 => e_int (r_eq rfl (a_nil (c_intB ?_))))))
        refine r_ixL_any (by split <;> decide) (by show _ < (2 : Int); split <;> decide) fun d hd => ?_
        simp only [List.mem_cons, List.not_mem_nil, or_false] at hd
        rcases hd with rfl | rfl
        · exact ⟨(1 + t).toNat, i, a, s, c, _, hs, by omega, by omega, by rw [Int.toNat_of_nonneg (by omega)]; rfl, rfl⟩
        · exact ⟨(4 + t2).toNat, i, a, s, c, _, hs, by omega, by omega, by rw [Int.toNat_of_nonneg (by omega)]; rfl, rfl⟩
      rintro Γ' Ω' ⟨k, i, a, s, c, y8, hs, k1, k2, rfl, rfl⟩
      refine s_seqM (fun Γ' Ω' => ∃ (nd : Nd) (i : Nat) (a s c : Int) (y8 : Option Av), SOk s ∧ ok1 nd ∧ Γ' = [some (.ptr p), some (.dat (.int ((m : Nat) : Int))), some (.dat (.int ((n : Nat) : Int))), some (.dat (.int z)), some (.ptr f), some it, some (.ptr g), some (.dat (.int ((k : Nat) : Int))), y8] ∧ Ω' = put (put (put Ω0 f ((W.map ndD).map .dat)) g ((nd.map mvD).map .dat)) p (handL ns i a s c)) ?_ ?_
      · refine s_for (fun as j Γ' Ω' => as.length = k ∧ ∃ (nd : Nd) (i : Nat) (a s c : Int) (y8 : Option Av), SOk s ∧ nd.length = j ∧ (∀ m ∈ nd, (-1000000 ≤ m.1 ∧ m.1 ≤ 1000000) ∧ m.2 < n) ∧ Γ' = [some (.ptr p), some (.dat (.int ((m : Nat) : Int))), some (.dat (.int ((n : Nat) : Int))), some (.dat (.int z)), some (.ptr f), some it, some (.ptr g), some (.dat (.int ((k : Nat) : Int))), y8] ∧ Ω' = put (put (put Ω0 f ((W.map ndD).map .dat)) g ((nd.map mvD).map .dat)) p (handL ns i a s c)) ?_
        refine i_rng1 (a_cons (e_var rfl (a_nil ⟨((k : Nat) : Int), rfl, ⟨by omega, by omega⟩, ⟨by (unfold rngA; rw [List.length_map, List.length_range]; omega), [], i, a, s, c, _, hs, rfl, nofun, rfl, rfl⟩, ?_, ?_⟩)))
        · rintro jj it2 Γ' Ω' hit2 ⟨las2, nd, i, a, s, c, y8, hs, lnd, ond, rfl, rfl⟩
          have hjj := (List.getElem?_eq_some_iff.mp hit2).1
          refine g_name (s_drop (e_app (e_var rfl ⟨g, rfl, ⟨_, by rw [put_ne gp, put_same]⟩, ?_⟩)))
          refine a_cons (e_tupD (a_cons (e_op (e_drawV rfl rfl hs (by omega) (by omega) fun t i a s c hs t0 t1 => e_op (e_var rfl (e_int (r_Ii (by exact ⟨by decide, by decide⟩) (r_I0i ?_))))))))
          refine a_cons (e_drawV rfl rfl hs (by omega) (by omega) fun t2 i a s c hs u0 u1 => a_nil ⟨_, .cons (.cons .nil), rfl, a_nil ⟨_, _, rfl, by rw [put_ne gp, put_same], by rw [List.length_map, List.length_map]; omega, ?_⟩⟩)
          have e2 : t2 = ((t2.toNat : Nat) : Int) := (Int.toNat_of_nonneg u0).symm
          refine ⟨las2, nd ++ [(t - z / 2, t2.toNat)], i, a, s, c, _, hs, by simp [lnd], fun mm hm => ?_, rfl, ?_⟩
          · rcases List.mem_append.mp hm with hm | hm
            · exact ond mm hm
            · rw [List.mem_singleton.mp hm]
              exact ⟨⟨by show -1000000 ≤ t - z / 2; omega, by show t - z / 2 ≤ 1000000; omega⟩, by show t2.toNat < n; omega⟩
          · rw [Dat.put_comm gp.symm, put_put]
            congr 2
            rw [List.map_append, List.map_append]
            show _ ++ [Av.dat (.tuple [.int (t - z / 2), .int t2])] = _ ++ [Av.dat (.tuple [.int (t - z / 2), .int ((t2.toNat : Nat) : Int)])]
            rw [← e2]
        · rintro Γ' Ω' ⟨las2, nd, i, a, s, c, y8, hs, lnd, ond, rfl, rfl⟩
          exact ⟨nd, i, a, s, c, _, hs, ⟨⟨by omega, by omega⟩, ond⟩, rfl, rfl⟩
      rintro Γ' Ω' ⟨nd, i, a, s, c, y8, hs, ond, rfl, rfl⟩
      refine s_drop (e_app (e_var rfl ⟨f, rfl, ⟨_, by rw [put_ne nf0, put_ne gf.symm, put_same]⟩, ?_⟩))
      refine a_cons (e_then (e_var rfl (r_tupP (by rw [put_ne gp, put_same]) ?_)))
      have ed : del (put (put (put Ω0 f ((W.map ndD).map .dat)) g ((nd.map mvD).map .dat)) p (handL ns i a s c)) g = put (put Ω0 f ((W.map ndD).map .dat)) p (handL ns i a s c) := by
        rw [Dat.put_comm gp, del_put (by rw [put_ne gp, put_ne gf]; exact ng)]
      rw [ed]
      refine a_nil ⟨_, _, rfl, by rw [put_ne nf0, put_same], by rw [List.length_map, List.length_map]; omega, ?_⟩
      refine ⟨las, W ++ [nd], i, a, s, c, _, _, _, _, hs, by simp [lW], fun x hx => ?_, rfl, ?_⟩
      · rcases List.mem_append.mp hx with hx | hx
        · exact oW x hx
        · rw [List.mem_singleton.mp hx]
          exact ond
      · rw [Dat.put_comm nf0.symm, put_put, List.map_append, List.map_append]
        rfl
    · rintro Γ' Ω' ⟨las, W, i, a, s, c, y5, y6, y7, y8, hs, lW, oW, rfl, rfl⟩
      exact ⟨W, i, a, s, c, _, _, _, _, hs, by omega, oW, rfl, rfl⟩
  rintro Γ' Ω' ⟨W, i, a, s, c, y5, y6, y7, y8, hs, lW, oW, rfl, rfl⟩
  refine s_ret (e_then (e_var rfl (r_tupP (by rw [put_ne nf0, put_same]) ?_)))
  rw [Dat.put_comm nf0, del_put (by rw [put_ne nf0]; exact f0)]
  exact h W i a s c hs ⟨by omega, by omega, fun nd hn => (oW nd hn).1, fun nd hn mm hm => ⟨((oW nd hn).2 mm hm).1, by rw [lW]; exact ((oW nd hn).2 mm hm).2⟩⟩ (by omega)
end
end K05

set_option Elab.async false
set_option linter.all false
set_option maxRecDepth 100000
set_option maxHeartbeats 1000000
namespace K05
open PySem PySem.Spec PyProof.Rows L2 Dat
local macro_rules | `(tactic| trivial) => `(tactic| (first
  | (with_reducible refine s_seq ?_)
  | (with_reducible refine s_asg ?_)
  | (with_reducible refine s_ret ?_)
  | (with_reducible refine s_drop ?_)
  | (with_reducible refine s_next ?_)
  | (with_reducible refine s_retN ?_)
  | (with_reducible refine s_brk ?_)
  | (with_reducible refine s_cont ?_)
  | (with_reducible refine s_if ?_)
  | (with_reducible refine e_int ?_)
  | (with_reducible refine e_str ?_)
  | (with_reducible refine e_bl ?_)
  | (with_reducible refine e_non ?_)
  | (with_reducible refine e_ty ?_)
  | (with_reducible refine e_tupD ?_)
  | (with_reducible refine e_lstD ?_)
  | (with_reducible refine e_op ?_)
  | (with_reducible refine e_un ?_)
  | (with_reducible refine e_then ?_)
  | (with_reducible refine e_cb ?_)
  | (with_reducible refine e_call ?_)
  | (with_reducible refine e_if ?_)
  | (with_reducible refine e_chain ?_)
  | (with_reducible refine e_andV ?_)
  | (with_reducible refine e_orV ?_)
  | (with_reducible refine e_notV ?_)
  | (with_reducible refine a_cons ?_)
  | (with_reducible refine a_nil ?_)
  | (with_reducible refine t_test ?_)
  | (with_reducible refine t_B ?_)
  | (with_reducible refine t_not ?_)
  | (with_reducible refine t_and ?_)
  | (with_reducible refine t_or ?_)
  | (with_reducible refine r_I0i ?_)
  | (with_reducible refine r_I0b ?_)
  | (with_reducible refine r_neg ?_)
  | (with_reducible refine r_isN ?_)
  | (with_reducible refine r_notN ?_)
  | (with_reducible refine c_lenT ?_)
  | (with_reducible refine c_lenL ?_)
  | (with_reducible refine c_intI ?_)
  | (with_reducible refine c_intB ?_)
  | (with_reducible refine c_max2 ?_)
  | (with_reducible refine c_min2 ?_)
  | (with_reducible refine c_abs ?_)
  | (with_reducible refine r_tupL ?_)
  | (with_reducible refine r_tupT ?_)
  | (with_reducible refine c_allM ?_)
  | ((with_reducible apply e_var); (exact rfl))
  | ((with_reducible refine r_eq ?_ ?_); (exact rfl))
  | ((with_reducible refine r_ne ?_ ?_); (exact rfl))
  | (with_reducible refine c_isi kit_int ?_)
  | (with_reducible refine c_isi kit_bool ?_)
  | (with_reducible refine c_isi kit_tuple ?_)
  | (with_reducible refine c_isi kit_list ?_)
  | (with_reducible refine c_isi kit_str ?_)
  | ((with_reducible apply r_ixT); (exact rfl))
  | ((with_reducible apply dats_pack); (iterate 40 (first | exact Dats.nil | apply Dats.cons | skip)); (exact rfl))
  | (with_reducible refine s_asgG ?_) | (with_reducible refine g_name ?_) | ((with_reducible refine g_tup ?_ ?_); (exact rfl)) | (refine gs_nil ?_) | (refine gs_cons ?_) | (with_reducible refine ⟨rfl, ?_⟩)
  | (refine ⟨_, rfl, ?_⟩) | (refine ⟨_, _, rfl, ?_⟩) | (refine ⟨_, _, _, rfl, ?_⟩) | (with_reducible refine ⟨fun _ => ?_, fun _ => ?_⟩) | fail))
/-! ### walks -/
def look (W : Web) (n : Nat) : Nd := W.getD n []
def sel (nd : Nd) : PyData → Option Mv
  | .int i => if 0 ≤ i then nd[i.toNat]? else none
  | _ => none
/-- the node, the sum, the place of the first entry that is none -/
def fol (W : Web) : List PyData → Nat → Int → Nat → Nat × Int × Option Nat
  | [], n, t, _ => (n, t, none)
  | d :: r, n, t, k => match sel (look W n) d with
    | none => (n, t, some k)
    | some m => fol W r m.2 (t + m.1) (k + 1)
theorem fol_cons {W : Web} {d : PyData} {r : List PyData} {n : Nat} {t : Int} {k : Nat} : fol W (d :: r) n t k = match sel (look W n) d with
    | none => (n, t, some k)
    | some m => fol W r m.2 (t + m.1) (k + 1) := rfl
theorem cut_to' {α : Type} {xs : List α} {j : Nat} : Dat.cutD xs none (some (j : Int)) = xs.take j := by
  unfold Dat.cutD
  rw [HT.sIx_nat]
  show (xs.drop 0).take (min j xs.length - 0) = xs.take j
  rw [List.drop_zero, Nat.sub_zero]
  rcases Nat.le_total j xs.length with h | h
  · rw [Nat.min_eq_left h]
  · rw [Nat.min_eq_right h, List.take_length, List.take_of_length_le h]
theorem lgk {z : Int} (h : z.natAbs ≤ 10000) : z.natAbs.log2 < 1920 := by
  by_cases e : z.natAbs = 0
  · rw [e]
    decide
  · exact (Nat.log2_lt e).mpr (Nat.lt_of_le_of_lt h (Nat.lt_of_lt_of_le (by decide : 10000 < 2 ^ 14) (Nat.pow_le_pow_right (by decide) (by decide))))
theorem look_mem {W : Web} {n : Nat} (h : n < W.length) : look W n ∈ W := by
  unfold look
  rw [List.getD_eq_getElem?_getD, List.getElem?_eq_getElem h]
  exact List.getElem_mem h
theorem web_at {W : Web} {n : Nat} (h : n < W.length) : atI (W.map ndD) (n : Nat) = some (ndD (look W n)) := by
  refine atI_nat ?_
  unfold look
  rw [List.getElem?_map, List.getD_eq_getElem?_getD, List.getElem?_eq_getElem h]
  rfl
theorem sel_some {nd : Nd} {d : PyData} {m : Mv} (h : sel nd d = some m) : ∃ i : Nat, d = .int (i : Nat) ∧ nd[i]? = some m := by
  unfold sel at h
  split at h
  · next i =>
    split at h
    · next hi => exact ⟨i.toNat, by rw [Int.toNat_of_nonneg hi], h⟩
    · cases h
  · cases h
theorem sel_in {nd : Nd} {d : PyData} (h1 : 1 ≤ nd.length) : inD 0 ((nd.length : Int) - 1) d = (sel nd d).isSome := by
  cases d <;> try rfl
  rename_i i
  show (decide (0 ≤ i) && decide (i ≤ (nd.length : Int) - 1)) = (if 0 ≤ i then nd[i.toNat]? else none).isSome
  by_cases h : 0 ≤ i
  · rw [if_pos h, decide_eq_true h, Bool.true_and]
    by_cases h2 : i ≤ (nd.length : Int) - 1
    · rw [decide_eq_true h2, List.getElem?_eq_getElem (by omega)]
      rfl
    · rw [decide_eq_false h2, List.getElem?_eq_none (by omega)]
      rfl
  · rw [if_neg h, decide_eq_false h, Bool.false_and]
    rfl
theorem at_node {nd : Nd} {i : Nat} {m : Mv} (h : nd[i]? = some m) : atI (nd.map mvD) (i : Nat) = some (mvD m) := by
  refine atI_nat ?_
  rw [List.getElem?_map, h]
  rfl
theorem WOk.tgt {W : Web} (o : WOk W) {n i : Nat} {m : Mv} (h : n < W.length) (e : (look W n)[i]? = some m) : m.2 < W.length := (o.mv _ (look_mem h) m (List.mem_of_getElem? e)).2
section
variable {P : Program} {w : World} {K : PySem.W.Frag} [Tb K] {mg : Str → Option Value} {base : Heap}
abbrev spSum : ASp := fun as Ω P => ∃ (W : Web) (ds : List PyData), as = [.dat (webD W), .dat (.list ds)] ∧ WOk W ∧ (∀ n t, fol W ds 0 0 0 = (n, t, none) → P (.dat (.tuple [.int ((n : Nat) : Int), .int t])) Ω) ∧ (∀ n t k, fol W ds 0 0 0 = (n, t, some k) → P (.dat .none) Ω)
theorem ok_law_sum (T : Top P K mg) : FnOk P w K mg base CX0 1 T.f__law_sum T.d__law_sum ["_law_net", "_law_walk_here"] (spA K spSum) := by
  refine fnA_ok T.D__law_sum.F sc__law_sum (fun as Ω P ⟨W, ds, e, _⟩ => by subst e; rfl) (fun cdv A outer s H E hr => ?_)
  refine ⟨_, (pss_cons (ps_asg (pe_tup (pa_cons pe_int (pa_cons pe_int pa_nil))) (Dat.pgT (K := K) (n := 2) rfl rfl (pgs_cons (pg_name (i := 2) sc__law_sum.nd rfl (.inl rfl)) (pgs_cons (pg_name (i := 3) sc__law_sum.nd rfl (.inl rfl)) pgs_nil))))
    (pss_cons (ps_for PassesOwn.never rfl (Dat.piL (K := K) rfl (pv 1)) (pg_name (i := 4) sc__law_sum.nd rfl (.inl rfl))
      (pss_cons (ps_if (PW.pt (pw_or (pt_val (pe_callB (Dat.isiQ (K := K) rfl) rfl T.b_isinstance bt_isinstance (pa_cons (pv 4) (pa_cons (pe_bltn (v := .ty "bool") rfl T.b_bool bt_bool rfl) pa_nil)))) (pw_or (pt_not (pt_val (pe_callB (Dat.isiQ (K := K) rfl) rfl T.b_isinstance bt_isinstance (pa_cons (pv 4) (pa_cons (pe_bltn (v := .ty "int") rfl T.b_int bt_int rfl) pa_nil))))) (pw_or1 (pt_not (pt_chain op_le op_lt pe_int (pv 4) (pe_callB (Dat.lenQ (K := K) rfl) rfl T.b_len bt_len (pa_cons (pe_ix (Dat.ixT (K := K) rfl) (pv 0) (pv 2) (fun _ _ => rfl)) pa_nil))))))))
        (pss_one (ps_ret pe_non))
        pss_nil)
      (pss_cons (ps_set (i := 3) sc__law_sum.nd rfl (.inl rfl) (pe_op op_add (pv 3) (pe_ix (Dat.ixT (K := K) rfl) (pe_ix (Dat.ixT (K := K) rfl) (pe_ix (Dat.ixT (K := K) rfl) (pv 0) (pv 2) (fun _ _ => rfl)) (pv 4) (fun _ _ => rfl)) pe_int (fun _ _ => rfl))))
      (pss_one (ps_set (i := 2) sc__law_sum.nd rfl (.inl rfl) (pe_ix (Dat.ixT (K := K) rfl) (pe_ix (Dat.ixT (K := K) rfl) (pe_ix (Dat.ixT (K := K) rfl) (pv 0) (pv 2) (fun _ _ => rfl)) (pv 4) (fun _ _ => rfl)) pe_int (fun _ _ => rfl)))))))
    (pss_one (ps_ret (pe_tup (pa_cons (pv 2) (pa_cons (pv 3) pa_nil))))))), ?_⟩
  rintro as Ω P ⟨W, ds, rfl, o, h1, h2⟩
  refine s_seq (s_asgG (e_tupD (a_cons (e_int (a_cons (e_int (a_nil ⟨_, .cons (.cons .nil), rfl, g_tup rfl (gs_cons (g_name ⟨rfl, gs_cons (g_name ⟨rfl, gs_nil ?_⟩)⟩))⟩)))))))
  refine s_seqM (fun Γ' Ω' => ∃ (n : Nat) (t : Int) (y : Option Av), Γ' = [some (.dat (webD W)), some (.dat (.list ds)), some (.dat (.int ((n : Nat) : Int))), some (.dat (.int t)), y] ∧ Ω' = Ω ∧ fol W ds 0 0 0 = (n, t, none)) ?_ ?_
  · refine s_for (fun as i Γ' Ω' => as = ds.map .dat ∧ ∃ (n : Nat) (t : Int) (y : Option Av), Γ' = [some (.dat (webD W)), some (.dat (.list ds)), some (.dat (.int ((n : Nat) : Int))), some (.dat (.int t)), y] ∧ Ω' = Ω ∧ n < W.length ∧ fol W (ds.drop i) n t i = fol W ds 0 0 0) ?_
    refine i_list (e_var rfl ⟨_, rfl, ⟨rfl, 0, 0, _, rfl, rfl, o.l1, rfl⟩, ?_, ?_⟩)
    · rintro i it Γ' Ω' hit ⟨-, n, t, y, rfl, rfl, hn, hf⟩
      rw [List.getElem?_map] at hit
      obtain ⟨d, hd, rfl⟩ := Option.map_eq_some_iff.mp hit
      have hdr : ds.drop i = d :: ds.drop (i + 1) := by
        obtain ⟨hi, e⟩ := List.getElem?_eq_some_iff.mp hd
        rw [List.drop_eq_getElem_cons hi, e]
      rw [hdr, fol_cons] at hf
      refine g_name (s_seq (s_ifB (b := !(sel (look W n) d).isSome) ?_ (fun z => ?_) fun z => s_next ?_))
      · cases d with
        | int j =>
          refine t_or (t_test (e_cb (a_cons (e_var rfl (a_cons (e_ty (a_nil (c_isi kit_bool ⟨_, rfl, nofun, fun _ => ?_⟩))))))))
          refine t_or (t_not (t_test (e_cb (a_cons (e_var rfl (a_cons (e_ty (a_nil (c_isi kit_int ⟨_, rfl, nofun, fun _ => ?_⟩)))))))))
          have es : (sel (look W n) (.int j)).isSome = (decide (0 ≤ j) && decide (j < ((look W n).length : Int))) := by
            rw [← sel_in (o.nd _ (look_mem hn)).1]
            show (decide (0 ≤ j) && decide (j ≤ ((look W n).length : Int) - 1)) = _
            congr 1
            rw [decide_eq_decide]
            omega
          rw [es]
          refine t_notB (t_ofC ?_)
          refine e_chain (e_int (e_var rfl (r_I0b ⟨_, rfl, fun z => ?_, fun z => ?_⟩)))
          · refine e_cb (a_cons (e_op (e_var rfl (e_var rfl (r_ixT (web_at hn) (a_nil (c_lenT (r_I0b ⟨?_, rfl⟩))))))))
            rw [z, Bool.true_and, List.length_map]
          · rw [z, Bool.false_and]
            exact ⟨rfl, rfl⟩
        | bool b =>
          exact t_or (t_test (e_cb (a_cons (e_var rfl (a_cons (e_ty (a_nil (c_isi kit_bool ⟨_, rfl, fun _ => ⟨rfl, rfl⟩, nofun⟩))))))))
        | _ =>
          refine t_or (t_test (e_cb (a_cons (e_var rfl (a_cons (e_ty (a_nil (c_isi kit_bool ⟨_, rfl, nofun, fun _ => ?_⟩))))))))
          exact t_or (t_not (t_test (e_cb (a_cons (e_var rfl (a_cons (e_ty (a_nil (c_isi kit_int ⟨_, rfl, fun _ => ⟨rfl, rfl⟩, nofun⟩)))))))))
      · have es : sel (look W n) d = none := by
          cases e : sel (look W n) d with
          | none => rfl
          | some m => rw [e] at z; cases z
        rw [es] at hf
        exact s_ret (e_non (h2 n t i hf.symm))
      · cases es : sel (look W n) d with
        | none => rw [es] at z; cases z
        | some m =>
          rw [es] at hf
          obtain ⟨j, rfl, hj⟩ := sel_some es
          refine s_seq (s_asg (e_op (e_var rfl (e_op (e_op (e_op (e_var rfl (e_var rfl (r_ixT (web_at hn) (e_var rfl (r_ixT (at_node hj) (e_int (r_ixT rfl (r_I0i ?_))))))))))))))
          exact s_asg (e_op (e_op (e_op (e_var rfl (e_var rfl (r_ixT (web_at hn) (e_var rfl (r_ixT (at_node hj) (e_int (r_ixT rfl ⟨rfl, _, _, _, rfl, rfl, o.tgt hn hj, hf⟩))))))))))
    · rintro Γ' Ω' ⟨-, n, t, y, rfl, rfl, hn, hf⟩
      refine ⟨n, t, y, rfl, rfl, ?_⟩
      rw [← hf, List.length_map, List.drop_length]
      rfl
  rintro Γ' Ω' ⟨n, t, y, rfl, rfl, hf⟩
  exact s_ret (e_tupD (a_cons (e_var rfl (a_cons (e_var rfl (a_nil ⟨_, .cons (.cons .nil), rfl, h1 n t hf⟩))))))
end
end K05

set_option Elab.async false
set_option linter.all false
set_option maxRecDepth 100000
set_option maxHeartbeats 1000000
namespace K05
open PySem PySem.Spec PyProof.Rows L2 Dat Dkd
local macro_rules | `(tactic| trivial) => `(tactic| (first
  | (with_reducible refine s_seq ?_)
  | (with_reducible refine s_asg ?_)
  | (with_reducible refine s_ret ?_)
  | (with_reducible refine s_drop ?_)
  | (with_reducible refine s_next ?_)
  | (with_reducible refine s_retN ?_)
  | (with_reducible refine s_brk ?_)
  | (with_reducible refine s_cont ?_)
  | (with_reducible refine s_if ?_)
  | (with_reducible refine e_int ?_)
  | (with_reducible refine e_str ?_)
  | (with_reducible refine e_bl ?_)
  | (with_reducible refine e_non ?_)
  | (with_reducible refine e_ty ?_)
  | (with_reducible refine e_tupD ?_)
  | (with_reducible refine e_lstD ?_)
  | (with_reducible refine e_op ?_)
  | (with_reducible refine e_un ?_)
  | (with_reducible refine e_then ?_)
  | (with_reducible refine e_cb ?_)
  | (with_reducible refine e_call ?_)
  | (with_reducible refine e_if ?_)
  | (with_reducible refine e_chain ?_)
  | (with_reducible refine e_andV ?_)
  | (with_reducible refine e_orV ?_)
  | (with_reducible refine e_notV ?_)
  | (with_reducible refine a_cons ?_)
  | (with_reducible refine a_nil ?_)
  | (with_reducible refine t_test ?_)
  | (with_reducible refine t_B ?_)
  | (with_reducible refine t_not ?_)
  | (with_reducible refine t_and ?_)
  | (with_reducible refine t_or ?_)
  | (with_reducible refine r_I0i ?_)
  | (with_reducible refine r_I0b ?_)
  | (with_reducible refine r_neg ?_)
  | (with_reducible refine r_isN ?_)
  | (with_reducible refine r_notN ?_)
  | (with_reducible refine c_lenT ?_)
  | (with_reducible refine c_lenL ?_)
  | (with_reducible refine c_intI ?_)
  | (with_reducible refine c_intB ?_)
  | (with_reducible refine c_max2 ?_)
  | (with_reducible refine c_min2 ?_)
  | (with_reducible refine c_abs ?_)
  | (with_reducible refine r_tupL ?_)
  | (with_reducible refine r_tupT ?_)
  | (with_reducible refine c_allM ?_)
  | ((with_reducible apply e_var); (exact rfl))
  | ((with_reducible refine r_eq ?_ ?_); (exact rfl))
  | ((with_reducible refine r_ne ?_ ?_); (exact rfl))
  | (with_reducible refine c_isi kit_int ?_)
  | (with_reducible refine c_isi kit_bool ?_)
  | (with_reducible refine c_isi kit_tuple ?_)
  | (with_reducible refine c_isi kit_list ?_)
  | (with_reducible refine c_isi kit_str ?_)
  | ((with_reducible apply r_ixT); (exact rfl))
  | ((with_reducible apply dats_pack); (iterate 40 (first | exact Dats.nil | apply Dats.cons | skip)); (exact rfl))
  | (with_reducible refine s_asgG ?_) | (with_reducible refine g_name ?_) | ((with_reducible refine g_tup ?_ ?_); (exact rfl)) | (refine gs_nil ?_) | (refine gs_cons ?_) | (with_reducible refine ⟨rfl, ?_⟩)
  | (refine ⟨_, rfl, ?_⟩) | (refine ⟨_, _, rfl, ?_⟩) | (refine ⟨_, _, _, rfl, ?_⟩) | (with_reducible refine ⟨fun _ => ?_, fun _ => ?_⟩) | fail))
/-! ### pairs of nodes that are met, each with the walk by which it is met first -/
abbrev Pr := Nat × Nat
abbrev Fo := List (Pr × List Nat)
def addP (row : List Nat) : Nat → Fo → List Pr → Fo
  | _, F, [] => F
  | j, F, t :: r => addP row (j + 1) (if t ∈ F.map (·.1) then F else F ++ [(t, row ++ [j])]) r
theorem addP_cons {row : List Nat} {j : Nat} {F : Fo} {t : Pr} {r : List Pr} : addP row j F (t :: r) = addP row (j + 1) (if t ∈ F.map (·.1) then F else F ++ [(t, row ++ [j])]) r := rfl
def tgts (W V : Web) (x : Pr) : List Pr := (List.zip (look W x.1) (look V x.2)).map fun m => (m.1.2, m.2.2)
def bfs (W V : Web) : Nat → Fo → Nat → Fo
  | 0, F, _ => F
  | k + 1, F, i => match F[i]? with
    | none => F
    | some x => bfs W V k (addP x.2 0 F (tgts W V x.1)) (i + 1)
def met (W V : Web) : Fo := bfs W V (W.length * V.length + 1) [((0, 0), [])] 0
theorem bfs_step {W V : Web} {k i : Nat} {x : Pr × List Nat} {F : Fo} (h : F[i]? = some x) : bfs W V (k + 1) F i = bfs W V k (addP x.2 0 F (tgts W V x.1)) (i + 1) := by
  show (match F[i]? with | none => F | some x => bfs W V k (addP x.2 0 F (tgts W V x.1)) (i + 1)) = _
  rw [h]
theorem bfs_end {W V : Web} {k : Nat} {F : Fo} : bfs W V k F F.length = F := by
  cases k with
  | zero => rfl
  | succ k =>
    show (match F[F.length]? with | none => F | some x => bfs W V k (addP x.2 0 F (tgts W V x.1)) (F.length + 1)) = _
    rw [List.getElem?_eq_none (Nat.le_refl _)]
theorem nodup_len : ∀ {n : Nat} {F : List Nat}, F.Nodup → (∀ x ∈ F, x < n) → F.length ≤ n
  | 0, F, _, b => by
    cases F with
    | nil => exact Nat.le_refl _
    | cons a r => exact absurd (b a List.mem_cons_self) (Nat.not_lt_zero _)
  | n + 1, F, nd, b => by
    have nd' := nd.erase n
    have b' : ∀ x ∈ F.erase n, x < n := fun x hx => by
      have h1 := b x (List.mem_of_mem_erase hx)
      have h2 : x ≠ n := fun e => by
        rw [e, nd.mem_erase_iff] at hx
        exact hx.1 rfl
      omega
    have := nodup_len nd' b'
    rw [List.length_erase] at this
    split at this <;> omega
structure Gd (F : Fo) (n m : Nat) : Prop where
  nd : (F.map (·.1)).Nodup
  b : ∀ x ∈ F, x.1.1 < n ∧ x.1.2 < m
def num (m : Nat) (x : Pr) : Nat := x.1 * m + x.2
theorem num_inj {m : Nat} {x y : Pr} (hx : x.2 < m) (hy : y.2 < m) (e : num m x = num m y) : x = y := by
  unfold num at e
  have d1 : (x.1 * m + x.2) / m = x.1 := by
    rw [Nat.mul_comm, Nat.mul_add_div (by omega), Nat.div_eq_of_lt hx, Nat.add_zero]
  have d2 : (y.1 * m + y.2) / m = y.1 := by
    rw [Nat.mul_comm, Nat.mul_add_div (by omega), Nat.div_eq_of_lt hy, Nat.add_zero]
  have a1 : x.1 = y.1 := by rw [← d1, e, d2]
  have a2 : x.2 = y.2 := by rw [a1] at e; omega
  exact Prod.ext a1 a2
theorem num_lt {n m : Nat} {x : Pr} (h1 : x.1 < n) (h2 : x.2 < m) : num m x < n * m := by
  unfold num
  have : (x.1 + 1) * m ≤ n * m := Nat.mul_le_mul_right m h1
  rw [Nat.succ_mul] at this
  omega
theorem nodup_num {m : Nat} : ∀ {L : List Pr}, L.Nodup → (∀ x ∈ L, x.2 < m) → (L.map (num m)).Nodup
  | [], _, _ => List.nodup_nil
  | a :: r, h, b => by
    rw [List.map_cons, List.nodup_cons]
    rw [List.nodup_cons] at h
    refine ⟨fun z => ?_, nodup_num h.2 fun x hx => b x (List.mem_cons_of_mem _ hx)⟩
    obtain ⟨y, hy, e⟩ := List.mem_map.mp z
    exact h.1 (num_inj (b y (List.mem_cons_of_mem _ hy)) (b a List.mem_cons_self) e ▸ hy)
theorem Gd.len {F : Fo} {n m : Nat} (g : Gd F n m) : F.length ≤ n * m := by
  have h := nodup_len (n := n * m) (nodup_num (m := m) g.nd (fun x hx => by
    obtain ⟨y, hy, rfl⟩ := List.mem_map.mp hx
    exact (g.b y hy).2)) (fun x hx => by
    obtain ⟨y, hy, rfl⟩ := List.mem_map.mp hx
    obtain ⟨z, hz, rfl⟩ := List.mem_map.mp hy
    exact num_lt (g.b z hz).1 (g.b z hz).2)
  simpa using h
theorem Gd.add {F : Fo} {n m : Nat} {t : Pr} {row : List Nat} (g : Gd F n m) (h1 : t.1 < n) (h2 : t.2 < m) (ht : t ∉ F.map (·.1)) : Gd (F ++ [(t, row)]) n m := by
  refine ⟨?_, fun x hx => ?_⟩
  · rw [List.map_append, List.nodup_append]
    exact ⟨g.nd, List.nodup_cons.mpr ⟨by simp, List.nodup_nil⟩, fun a ha b hb => by
      rw [List.mem_singleton.mp hb]
      intro e
      have e' : a = t := e
      exact ht (e' ▸ ha)⟩
  · rcases List.mem_append.mp hx with hx | hx
    · exact g.b x hx
    · rw [List.mem_singleton.mp hx]
      exact ⟨h1, h2⟩
theorem Gd.addP {n m : Nat} {row : List Nat} : ∀ {ts : List Pr} {j : Nat} {F : Fo}, Gd F n m → (∀ t ∈ ts, t.1 < n ∧ t.2 < m) → Gd (K05.addP row j F ts) n m ∧ ∃ G, K05.addP row j F ts = F ++ G
  | [], _, F, g, _ => ⟨g, [], (List.append_nil F).symm⟩
  | t :: r, j, F, g, h => by
    rw [addP_cons]
    split
    · exact Gd.addP g fun x hx => h x (List.mem_cons_of_mem _ hx)
    · next ht =>
      have ht1 := h t List.mem_cons_self
      obtain ⟨g1, G, e⟩ := Gd.addP (row := row) (j := j + 1) (g.add (row := row ++ [j]) ht1.1 ht1.2 ht) fun x hx => h x (List.mem_cons_of_mem _ hx)
      exact ⟨g1, _, by rw [e, List.append_assoc]⟩
theorem tgts_lt {W V : Web} (o : WOk W) (o2 : WOk V) {x : Pr} (h1 : x.1 < W.length) (h2 : x.2 < V.length) : ∀ t ∈ tgts W V x, t.1 < W.length ∧ t.2 < V.length := fun t ht => by
  obtain ⟨mm, hm, rfl⟩ := List.mem_map.mp ht
  obtain ⟨a, b⟩ := mm
  have := List.of_mem_zip hm
  exact ⟨(o.mv _ (look_mem h1) a this.1).2, (o2.mv _ (look_mem h2) b this.2).2⟩
theorem bfs_gd {W V : Web} (o : WOk W) (o2 : WOk V) : ∀ {k i : Nat} {F : Fo}, Gd F W.length V.length → Gd (bfs W V k F i) W.length V.length ∧ ∃ G, bfs W V k F i = F ++ G
  | 0, _, F, g => ⟨g, [], (List.append_nil F).symm⟩
  | k + 1, i, F, g => by
    cases e : F[i]? with
    | none =>
      have : bfs W V (k + 1) F i = F := by
        show (match F[i]? with | none => F | some x => bfs W V k (K05.addP x.2 0 F (tgts W V x.1)) (i + 1)) = _
        rw [e]
      rw [this]
      exact ⟨g, [], (List.append_nil F).symm⟩
    | some x =>
      rw [bfs_step e]
      have hx := g.b x (List.mem_of_getElem? e)
      obtain ⟨g1, G1, e1⟩ := g.addP (row := x.2) (j := 0) (tgts_lt o o2 hx.1 hx.2)
      obtain ⟨g2, G2, e2⟩ := bfs_gd o o2 (k := k) (i := i + 1) g1
      exact ⟨g2, G1 ++ G2, by rw [e2, e1, List.append_assoc]⟩
theorem gd0 {W V : Web} (o : WOk W) (o2 : WOk V) : Gd [((0, 0), [])] W.length V.length := ⟨by simp, fun x hx => by
  rw [List.mem_singleton.mp hx]
  exact ⟨o.l1, o2.l1⟩⟩
theorem met_gd {W V : Web} (o : WOk W) (o2 : WOk V) : Gd (met W V) W.length V.length := (bfs_gd o o2 (gd0 o o2)).1
/-- a pair as data -/
def prD (x : Pr) : PyData := .tuple [.int ((x.1 : Nat) : Int), .int ((x.2 : Nat) : Int)]
theorem prD_inj {x y : Pr} (h : prD x = prD y) : x = y := by
  unfold prD at h
  injection h with h
  injection h with h1 h2
  injection h2 with h2 _
  injection h1 with h1
  injection h2 with h2
  exact Prod.ext (by omega) (by omega)
theorem prK (x : Pr) : KeyD [.int ((x.1 : Nat) : Int), .int ((x.2 : Nat) : Int)] := ⟨rfl, by simp [PyData.depth, PyData.depthAll]⟩
/-- how a pair is met, as a value of the dict -/
inductive Ste (F : Fo) : List Nat → PyData → Prop
  | nil : Ste F [] .none
  | snoc {y : Pr} {r : List Nat} {i : Nat} (h : (y, r) ∈ F) : Ste F (r ++ [i]) (.tuple [prD y, .int ((i : Nat) : Int)])
theorem Ste.more {F G : Fo} {r : List Nat} {d : PyData} (h : Ste F r d) : Ste (F ++ G) r d := by
  cases h with
  | nil => exact .nil
  | snoc h => exact .snoc (List.mem_append_left _ h)
end K05

set_option Elab.async false
set_option linter.all false
set_option maxRecDepth 100000
set_option maxHeartbeats 1000000
namespace K05
open PySem PySem.Spec PyProof.Rows L2 Dat Dkd LamX NdefX Clo
local macro_rules | `(tactic| trivial) => `(tactic| (first
  | (with_reducible refine s_seq ?_)
  | (with_reducible refine s_asg ?_)
  | (with_reducible refine s_ret ?_)
  | (with_reducible refine s_drop ?_)
  | (with_reducible refine s_next ?_)
  | (with_reducible refine s_retN ?_)
  | (with_reducible refine s_brk ?_)
  | (with_reducible refine s_cont ?_)
  | (with_reducible refine s_if ?_)
  | (with_reducible refine e_int ?_)
  | (with_reducible refine e_str ?_)
  | (with_reducible refine e_bl ?_)
  | (with_reducible refine e_non ?_)
  | (with_reducible refine e_ty ?_)
  | (with_reducible refine e_tupD ?_)
  | (with_reducible refine e_lstD ?_)
  | (with_reducible refine e_op ?_)
  | (with_reducible refine e_un ?_)
  | (with_reducible refine e_then ?_)
  | (with_reducible refine e_cb ?_)
  | (with_reducible refine e_call ?_)
  | (with_reducible refine e_if ?_)
  | (with_reducible refine e_chain ?_)
  | (with_reducible refine e_andV ?_)
  | (with_reducible refine e_orV ?_)
  | (with_reducible refine e_notV ?_)
  | (with_reducible refine a_cons ?_)
  | (with_reducible refine a_nil ?_)
  | (with_reducible refine t_test ?_)
  | (with_reducible refine t_B ?_)
  | (with_reducible refine t_not ?_)
  | (with_reducible refine t_and ?_)
  | (with_reducible refine t_or ?_)
  | (with_reducible refine r_I0i ?_)
  | (with_reducible refine r_I0b ?_)
  | (with_reducible refine r_neg ?_)
  | (with_reducible refine r_isN ?_)
  | (with_reducible refine r_notN ?_)
  | (with_reducible refine c_lenT ?_)
  | (with_reducible refine c_lenL ?_)
  | (with_reducible refine c_intI ?_)
  | (with_reducible refine c_intB ?_)
  | (with_reducible refine c_max2 ?_)
  | (with_reducible refine c_min2 ?_)
  | (with_reducible refine c_abs ?_)
  | (with_reducible refine r_tupL ?_)
  | (with_reducible refine r_tupT ?_)
  | (with_reducible refine c_allM ?_)
  | ((with_reducible apply e_var); (exact rfl))
  | ((with_reducible refine r_eq ?_ ?_); (exact rfl))
  | ((with_reducible refine r_ne ?_ ?_); (exact rfl))
  | (with_reducible refine c_isi kit_int ?_)
  | (with_reducible refine c_isi kit_bool ?_)
  | (with_reducible refine c_isi kit_tuple ?_)
  | (with_reducible refine c_isi kit_list ?_)
  | (with_reducible refine c_isi kit_str ?_)
  | ((with_reducible apply r_ixT); (exact rfl))
  | ((with_reducible apply dats_pack); (iterate 40 (first | exact Dats.nil | apply Dats.cons | skip)); (exact rfl))
  | (with_reducible refine s_asgG ?_) | (with_reducible refine g_name ?_) | ((with_reducible refine g_tup ?_ ?_); (exact rfl)) | (refine gs_nil ?_) | (refine gs_cons ?_) | (with_reducible refine ⟨rfl, ?_⟩)
  | (refine ⟨_, rfl, ?_⟩) | (refine ⟨_, _, rfl, ?_⟩) | (refine ⟨_, _, _, rfl, ?_⟩) | (with_reducible refine ⟨fun _ => ?_, fun _ => ?_⟩) | fail))
/-! ### the pairs behind a pair -/
def pbSt : Stmt := match defBody s_pair_steps with | s :: _ => s | _ => s_pair_steps
abbrev pbF (q : Str) (cl : List (Str × Addr)) (c' : Addr) : NF := NF.of pbSt "pairs_behind" q cl c'
abbrev N_pb : List Str := ["pair", "web", "other", "move", "beside"]
theorem sc_pb : NScope N_pb ["pair"] ["web", "other"] (C8.fnScope pbSt) := nscope_by (by decide +kernel)
section
variable {P : Program} {w : World} {K : PySem.W.Frag} [Tb K] {mg : Str → Option Value} {base : Heap}
abbrev lsp : LSp := fun cs as Ω P => ∃ (W V : Web) (x : Pr), cs = [webD W, webD V] ∧ as = [.dat (prD x)] ∧ WOk W ∧ WOk V ∧ x.1 < W.length ∧ x.2 < V.length ∧ P (.dat (.list ((tgts W V x).map prD))) Ω
theorem nokC (T : Top P K mg) (q : Str) (cl : List (Str × Addr)) (f c' : Addr) : NOk P w K mg base CX0 1 f (pbF q cl c') ["pair"] ["web", "other"] (spL K lsp) := by
  refine nokA_of (N := N_pb) sc_pb (fun doc pm ctv us hl => match us, hl with | [_], _ => rfl) (fun cs as Ω P ⟨W, V, x, e1, e, _⟩ => by subst e; rfl) (fun A outer s H E hr => ?_)
  refine ⟨_, (pss_one (ps_ret (pe_lc (own := [("move", 3), ("beside", 4)]) (g := (gTup K 2 (gCons (gName 3) (gCons (gName 4) gNil)))) (tt := tYes) rfl sc_pb.nd (Dat.zipQ (K := K) rfl rfl T.b_zip (pa_cons (pe_ix (Dat.ixT (K := K) rfl) (pe_var (i := 1) rfl (Or.inr (Or.inr rfl))) (pe_ix (Dat.ixT (K := K) rfl) (pe_var (i := 0) rfl (Or.inl rfl)) pe_int (fun _ _ => rfl)) (fun _ _ => rfl)) (pa_cons (pe_ix (Dat.ixT (K := K) rfl) (pe_var (i := 2) rfl (Or.inr (Or.inr rfl))) (pe_ix (Dat.ixT (K := K) rfl) (pe_var (i := 0) rfl (Or.inl rfl)) pe_int (fun _ _ => rfl)) (fun _ _ => rfl)) pa_nil))) (blkOk_by (N := N_pb) (sc := C8.fnScope pbSt) (by decide +kernel)) (fun _ _ _ _ _ => (Dat.pgT (K := K) (n := 2) rfl rfl (pgs_cons (pg_name (i := 3) sc_pb.nd rfl (Or.inl rfl) (Or.inr rfl)) (pgs_cons (pg_name (i := 4) sc_pb.nd rfl (Or.inl rfl) (Or.inr rfl)) pgs_nil)))) (fun _ _ _ _ _ => pts_nil) (fun _ _ _ _ _ => (pe_tup (pa_cons (pe_ix (Dat.ixT (K := K) rfl) (pe_var (i := 3) rfl (Or.inl rfl)) pe_int (fun _ _ => rfl)) (pa_cons (pe_ix (Dat.ixT (K := K) rfl) (pe_var (i := 4) rfl (Or.inl rfl)) pe_int (fun _ _ => rfl)) pa_nil))))))), ?_⟩
  rintro cs as Ω P ⟨W, V, x, rfl, rfl, o, o2, h1, h2, h⟩
  have hl := (o.nd _ (look_mem h1)).2
  refine s_ret (e_lcM (List.zip (look W x.1) (look V x.2)) (fun m => .dat (.tuple [mvD m.1, mvD m.2])) (fun m => prD (m.1.2, m.2.2)) (gn_tup (gns_cons (gn_name (by decide)) (gns_cons (gn_name (by decide)) gns_nil))) (by rw [List.length_zip]; omega) ?_)
  refine i_zipM (a_cons (e_op (e_var rfl (e_op (e_var rfl (e_int (r_ixT rfl (r_ixT (web_at h1) (a_cons (e_op (e_var rfl (e_op (e_var rfl (e_int (r_ixT rfl (r_ixT (web_at h2) (a_nil ⟨_, _, rfl, ?_, fun m Ω' hm _ => ?_, ?_⟩)))))))))))))))))
  · unfold zipM
    rw [List.zip_map, List.map_map]
    rfl
  · exact g_tup rfl (gs_cons (g_name ⟨rfl, gs_cons (g_name ⟨rfl, gs_nil ⟨rfl, e_tupD (a_cons (e_op (e_var rfl (e_int (r_ixT rfl (a_cons (e_op (e_var rfl (e_int (r_ixT rfl (a_nil ⟨_, .cons (.cons .nil), rfl, ⟨rfl, rfl⟩⟩)))))))))))⟩⟩)⟩))
  · have e : (List.zip (look W x.1) (look V x.2)).map (fun m => prD (m.1.2, m.2.2)) = (tgts W V x).map prD := by
      unfold tgts
      rw [List.map_map]
      rfl
    rw [e]
    exact h
end
end K05

set_option Elab.async false
set_option linter.all false
set_option maxRecDepth 100000
set_option maxHeartbeats 1000000
namespace K05
open PySem PySem.Spec PyProof.Rows L2 Dat Dkd LamX NdefX Clo
local macro_rules | `(tactic| trivial) => `(tactic| (first
  | (with_reducible refine s_seq ?_)
  | (with_reducible refine s_asg ?_)
  | (with_reducible refine s_ret ?_)
  | (with_reducible refine s_drop ?_)
  | (with_reducible refine s_next ?_)
  | (with_reducible refine s_retN ?_)
  | (with_reducible refine s_brk ?_)
  | (with_reducible refine s_cont ?_)
  | (with_reducible refine s_if ?_)
  | (with_reducible refine e_int ?_)
  | (with_reducible refine e_str ?_)
  | (with_reducible refine e_bl ?_)
  | (with_reducible refine e_non ?_)
  | (with_reducible refine e_ty ?_)
  | (with_reducible refine e_tupD ?_)
  | (with_reducible refine e_lstD ?_)
  | (with_reducible refine e_op ?_)
  | (with_reducible refine e_un ?_)
  | (with_reducible refine e_then ?_)
  | (with_reducible refine e_cb ?_)
  | (with_reducible refine e_call ?_)
  | (with_reducible refine e_if ?_)
  | (with_reducible refine e_chain ?_)
  | (with_reducible refine e_andV ?_)
  | (with_reducible refine e_orV ?_)
  | (with_reducible refine e_notV ?_)
  | (with_reducible refine a_cons ?_)
  | (with_reducible refine a_nil ?_)
  | (with_reducible refine t_test ?_)
  | (with_reducible refine t_B ?_)
  | (with_reducible refine t_not ?_)
  | (with_reducible refine t_and ?_)
  | (with_reducible refine t_or ?_)
  | (with_reducible refine r_I0i ?_)
  | (with_reducible refine r_I0b ?_)
  | (with_reducible refine r_neg ?_)
  | (with_reducible refine r_isN ?_)
  | (with_reducible refine r_notN ?_)
  | (with_reducible refine c_lenT ?_)
  | (with_reducible refine c_lenL ?_)
  | (with_reducible refine c_intI ?_)
  | (with_reducible refine c_intB ?_)
  | (with_reducible refine c_max2 ?_)
  | (with_reducible refine c_min2 ?_)
  | (with_reducible refine c_abs ?_)
  | (with_reducible refine r_tupL ?_)
  | (with_reducible refine r_tupT ?_)
  | (with_reducible refine c_allM ?_)
  | ((with_reducible apply e_var); (exact rfl))
  | ((with_reducible refine r_eq ?_ ?_); (exact rfl))
  | ((with_reducible refine r_ne ?_ ?_); (exact rfl))
  | (with_reducible refine c_isi kit_int ?_)
  | (with_reducible refine c_isi kit_bool ?_)
  | (with_reducible refine c_isi kit_tuple ?_)
  | (with_reducible refine c_isi kit_list ?_)
  | (with_reducible refine c_isi kit_str ?_)
  | ((with_reducible apply r_ixT); (exact rfl))
  | ((with_reducible apply dats_pack); (iterate 40 (first | exact Dats.nil | apply Dats.cons | skip)); (exact rfl))
  | (with_reducible refine s_asgG ?_) | (with_reducible refine g_name ?_) | ((with_reducible refine g_tup ?_ ?_); (exact rfl)) | (refine gs_nil ?_) | (refine gs_cons ?_) | (with_reducible refine ⟨rfl, ?_⟩)
  | (refine ⟨_, rfl, ?_⟩) | (refine ⟨_, _, rfl, ?_⟩) | (refine ⟨_, _, _, rfl, ?_⟩) | (with_reducible refine ⟨fun _ => ?_, fun _ => ?_⟩) | fail))
/-! ### the search over pairs -/
/-- the dict's entries tell how the pairs of F are met, with what G holds -/
def Stk (G : Fo) : Fo → List (PyData × PyData) → Prop
  | [], [] => True
  | x :: F, y :: k => y.1 = prD x.1 ∧ Ste G x.2 y.2 ∧ Stk G F k
  | [], _ :: _ => False
  | _ :: _, [] => False
theorem Stk.more {G X : Fo} : ∀ {F : Fo} {k : List (PyData × PyData)}, Stk G F k → Stk (G ++ X) F k
  | [], [], _ => True.intro
  | _ :: _, _ :: _, ⟨a, b, c⟩ => ⟨a, b.more, Stk.more c⟩
theorem Stk.snoc {G : Fo} {t : Pr} {r : List Nat} {d : PyData} (hd : Ste G r d) : ∀ {F : Fo} {k : List (PyData × PyData)}, Stk G F k → Stk G (F ++ [(t, r)]) (k ++ [(prD t, d)])
  | [], [], _ => ⟨rfl, hd, True.intro⟩
  | _ :: _, _ :: _, ⟨a, b, c⟩ => ⟨a, b, Stk.snoc hd c⟩
theorem Stk.len {G : Fo} : ∀ {F : Fo} {k : List (PyData × PyData)}, Stk G F k → k.length = F.length
  | [], [], _ => rfl
  | _ :: _, _ :: _, ⟨_, _, c⟩ => by rw [List.length_cons, List.length_cons, c.len]
theorem Stk.val {G : Fo} {t : Pr} : ∀ {F : Fo} {k : List (PyData × PyData)}, Stk G F k → (valD (datV k) (prD t)).isSome = decide (t ∈ F.map (·.1))
  | [], [], _ => rfl
  | x :: F, y :: k, ⟨a, b, c⟩ => by
    have ih := c.val (t := t)
    unfold valD datV at ih ⊢
    rw [List.map_cons, List.find?_cons]
    by_cases e : x.1 = t
    · have : decide (y.1 = prD t) = true := by rw [a, e]; exact decide_eq_true rfl
      rw [this, List.map_cons, e]
      simp
    · have : decide (y.1 = prD t) = false := by
        rw [a]
        exact decide_eq_false fun z => e (prD_inj z)
      rw [this, List.map_cons]
      show _ = decide (t ∈ x.1 :: F.map (·.1))
      rw [ih]
      simp [List.mem_cons, Ne.symm e]
theorem Stk.put {G : Fo} {F : Fo} {k : List (PyData × PyData)} {t : Pr} {d : PyData} (h : Stk G F k) (ht : t ∉ F.map (·.1)) : putD (datV k) (prD t) (.dat d) = datV (k ++ [(prD t, d)]) := by
  unfold putD
  rw [h.val, decide_eq_false ht, if_neg (by decide)]
  unfold datV
  rw [List.map_append]
  rfl
def pF (F : Fo) : List Av := (F.map fun x => prD x.1).map Av.dat
theorem pF_at {F : Fo} {i : Nat} {x : Pr × List Nat} (h : F[i]? = some x) : atI (pF F) ((i : Nat) : Int) = some (.dat (prD x.1)) := by
  refine atI_nat ?_
  unfold pF
  rw [List.map_map, List.getElem?_map, h]
  rfl
theorem pF_len {F : Fo} : (pF F).length = F.length := by
  unfold pF
  rw [List.length_map, List.length_map]
theorem pF_app {F : Fo} {t : Pr} {r : List Nat} : pF F ++ [.dat (prD t)] = pF (F ++ [(t, r)]) := by
  unfold pF
  simp
section
variable {P : Program} {w : World} {K : PySem.W.Frag} [Tb K] {mg : Str → Option Value} {base : Heap}
abbrev spSearch (w : World) (q : Str) (cl : List (Str × Addr)) : CSp := fun f c' cap as Ω P => ∃ W V : Web, cap.map (·.2) = [webD W, webD V] ∧ as = [.dat (prD (0, 0)), FnA f (pbF q cl c') cap] ∧ WOk W ∧ WOk V ∧ ∀ d kds, Ω.Off d → Stk (met W V) (met W V) kds → P (.ptr d) (puto Ω d (.dd w d (datV kds)))
theorem mul_le {a b : Nat} (ha : a ≤ 120) (hb : b ≤ 120) : a * b ≤ 14400 := Nat.le_trans (Nat.mul_le_mul ha hb) (by decide)
theorem ok_search (T : Top P K mg) (q : Str) (cl : List (Str × Addr)) (f c' : Addr) : FnC P w K mg base CX0 2 T.f_search T.d_search ["start", "leads"] cl ["web", "other"] (spCl K (spSearch w q cl) f c') := by
  have HL : NOk P w K mg base CX0 1 f (pbF q cl c') ["pair"] ["web", "other"] (spL K lsp) := nokC T q cl f c'
  refine fncA_of T.D_search.F sc_search (fun cap cdv A outer s H E hr C0 => ?_)
  refine ⟨_, (pss_cons (ps_set (i := 2) sc_search.nd rfl (.inl rfl) (pe_disp1E (hu9 hr) (pv 0) pe_non))
    (pss_cons (ps_set (i := 3) sc_search.nd rfl (.inl rfl) (pe_lst (pa_cons (pv 0) pa_nil)))
    (pss_cons (ps_set (i := 4) sc_search.nd rfl (.inl rfl) pe_int)
    (pss_cons (ps_while PassesOwn.never (pt_cmpR op_lt (pv 4) (pe_callB (Dat.lenQ (K := K) rfl) rfl T.b_len bt_len (pa_cons (pv 3) pa_nil)) (nomark _))
      (pss_cons (ps_set (i := 5) sc_search.nd rfl (.inl rfl) (pe_ix (Dat.ixL (K := K) rfl) (pv 3) (pv 4) (fun _ _ => rfl)))
      (pss_cons (ps_aug (i := 4) sc_search.nd rfl (.inl rfl) pe_int ip_add)
      (pss_one (ps_for PassesOwn.never rfl (Dat.enumQ (K := K) rfl rfl T.b_enumerate (pa_cons (pe_heldN (i := 1) HL C0 rfl (hr.mono (by omega)) (Nat.le_refl _) pass0 rfl (.inl rfl) (pa_cons (pv 5) pa_nil)) pa_nil)) (Dat.pgT (K := K) (n := 2) rfl rfl (pgs_cons (pg_name (i := 6) sc_search.nd rfl (.inl rfl)) (pgs_cons (pg_name (i := 7) sc_search.nd rfl (.inl rfl)) pgs_nil)))
        (pss_one (ps_if (pt_cmp (pc_dnotinE (hu9 hr) (pv 7) (pv 2)))
          (pss_cons (ps_dputE (hu9 hr) (pv 2) (pv 7) (pe_tup (pa_cons (pv 5) (pa_cons (pv 6) pa_nil))) rfl)
          (pss_one (ps_expr (Dat.appQ (K := K) rfl (pv 3) (pa_cons (pv 7) pa_nil)))))
          pss_nil)))))))
    (pss_one (ps_ret (pv 2))))))), ?_⟩
  rintro as Ω P ⟨W, V, ecap, rfl, o, o2, h⟩
  have NB : W.length * V.length ≤ 14400 := mul_le o.l2 o2.l2
  refine s_seq (s_asg (e_disp1E fun d od => ?_))
  refine e_var rfl ⟨_, rfl, prK (0, 0), e_non ⟨puto_same, ?_⟩⟩
  rw [puto_puto]
  refine s_seq (s_asg (e_lstP (a_cons (e_var rfl (a_nil ⟨by decide, fun p np => ?_⟩)))))
  have np' : Ω p = none := np
  refine s_seq (s_asg (e_int ?_))
  refine s_seqM (fun Γ' Ω' => ∃ (kds : List (PyData × PyData)) (y3 y4 y5 y6 y7 : Option Av), Γ' = [some (.dat (prD (0, 0))), some (FnA f (pbF q cl c') cap), some (.ptr d), y3, y4, y5, y6, y7] ∧ Stk (met W V) (met W V) kds ∧ Ω' = put (puto Ω d (.dd w d (datV kds))) p (pF (met W V))) ?_ ?_
  · refine s_while (fun m Γ' Ω' => ∃ (F : Fo) (i : Nat) (kds : List (PyData × PyData)) (x5 x6 x7 : Option Av), m = W.length * V.length + 1 - i ∧ Γ' = [some (.dat (prD (0, 0))), some (FnA f (pbF q cl c') cap), some (.ptr d), some (.ptr p), some (.dat (.int ((i : Nat) : Int))), x5, x6, x7] ∧
      Gd F W.length V.length ∧ i ≤ F.length ∧ Stk F F kds ∧ Ω' = put (puto Ω d (.dd w d (datV kds))) p (pF F) ∧ bfs W V (W.length * V.length + 1 - i) F i = met W V) (W.length * V.length + 1) ?_ ?_
    · exact ⟨[((0, 0), [])], 0, [(prD (0, 0), .none)], _, _, _, rfl, rfl, gd0 o o2, Nat.zero_le _, ⟨rfl, .nil, True.intro⟩, rfl, rfl⟩
    · rintro m Γ' Ω' ⟨F, i, kds, x5, x6, x7, rfl, rfl, g, hi, hk, rfl, hb⟩
      have gl := g.len
      refine t_test (e_op (e_var rfl (e_cb (a_cons (e_var rfl (a_nil (c_lenP put_same (r_I0b ⟨_, rfl, fun z => ?_, fun z => ?_⟩))))))))
      · have hlt : i < F.length := by
          have := of_decide_eq_true z
          rw [pF_len] at this
          omega
        have ex : F[i]? = some F[i] := List.getElem?_eq_getElem hlt
        have hx := g.b _ (List.getElem_mem hlt)
        refine s_seq (s_asg (e_op (e_var rfl (e_var rfl (r_ixP put_same (pF_at ex) ?_)))))
        refine s_seq (s_aug rfl (e_int ⟨_, rfl, ?_⟩))
        have ek : W.length * V.length + 1 - i = (W.length * V.length - i) + 1 := by omega
        rw [ek, bfs_step ex] at hb
        have tb := tgts_lt o o2 hx.1 hx.2
        refine s_for (fun as j Γ' Ω' => as = enumA ((tgts W V F[i].1).map prD) ∧ ∃ (G : Fo) (kds : List (PyData × PyData)) (x6 x7 : Option Av), Γ' = [some (.dat (prD (0, 0))), some (FnA f (pbF q cl c') cap), some (.ptr d), some (.ptr p), some (.dat (.int (((i + 1 : Nat) : Nat) : Int))), some (.dat (prD F[i].1)), x6, x7] ∧
          Gd G W.length V.length ∧ (∃ X, G = F ++ X) ∧ Stk G G kds ∧ Ω' = put (puto Ω d (.dd w d (datV kds))) p (pF G) ∧ addP F[i].2 j G ((tgts W V F[i].1).drop j) = addP F[i].2 0 F (tgts W V F[i].1)) ?_
        refine i_enumL (a_cons (e_heldN (F := pbF q cl c') (sp := lsp) rfl (a_cons (e_var rfl (a_nil ⟨W, V, F[i].1, ecap, rfl, o, o2, hx.1, hx.2, a_nil ⟨_, rfl, ⟨rfl, F, kds, _, _, rfl, g, ⟨[], (List.append_nil F).symm⟩, hk, rfl, rfl⟩, ?_, ?_⟩⟩)))))
        · rintro j it Γ' Ω' hit ⟨-, G, kds, x6, x7, rfl, gG, ⟨X, eG⟩, hk, rfl, ha⟩
          obtain ⟨dd, hd, rfl⟩ := enumA_at hit
          rw [List.getElem?_map] at hd
          obtain ⟨t, et, rfl⟩ := Option.map_eq_some_iff.mp hd
          have hj := (List.getElem?_eq_some_iff.mp et).1
          have hdr : (tgts W V F[i].1).drop j = t :: (tgts W V F[i].1).drop (j + 1) := by
            rw [List.drop_eq_getElem_cons hj, (List.getElem?_eq_some_iff.mp et).2]
          rw [hdr, addP_cons] at ha
          have ht := tb t (List.mem_of_getElem? et)
          refine g_tup rfl (gs_cons (g_name ⟨rfl, gs_cons (g_name ⟨rfl, gs_nil ?_⟩)⟩))
          refine s_if (t_B (e_dninE (e_var rfl ⟨_, rfl, prK t, e_var rfl ⟨d, datV kds, rfl, puto_same, _, rfl, fun z => ?_, fun z => s_next ?_⟩⟩)))
          · have z' : (!(valD (datV kds) (prD t)).isSome) = true := z
            rw [hk.val] at z'
            have hn : t ∉ G.map (·.1) := by simpa using z'
            rw [if_neg hn] at ha
            refine s_seq (s_dputE (e_tupD (a_cons (e_var rfl (a_cons (e_var rfl (a_nil ⟨_, .cons (.cons .nil), rfl, ?_⟩)))))))
            refine e_var rfl (e_var rfl ⟨d, datV kds, _, rfl, puto_same, rfl, prK t, ?_, ?_⟩)
            · have l1 : (datV kds).length = G.length := by
                unfold datV
                rw [List.length_map, hk.len]
              rw [l1]
              have := gG.len
              omega
            rw [puto_put, puto_puto]
            refine s_drop (e_app (e_var rfl ⟨p, rfl, ⟨_, put_same⟩, a_cons (e_var rfl (a_nil ⟨_, _, rfl, put_same, ?_, ?_⟩))⟩))
            · rw [pF_len]
              have := gG.len
              omega
            · have mF : (F[i].1, F[i].2) ∈ G := by
                rw [eG]
                exact List.mem_append_left _ (List.getElem_mem hlt)
              have hs : Ste G (F[i].2 ++ [j]) (.tuple [prD F[i].1, .int ((j : Nat) : Int)]) := .snoc mF
              have e3 := hk.put (d := .tuple [prD F[i].1, .int ((j : Nat) : Int)]) hn
              have e4 : putD (datV kds) (.tuple [.int ((t.1 : Nat) : Int), .int ((t.2 : Nat) : Int)]) (.dat (.tuple [prD F[i].1, .int ((j : Nat) : Int)])) = datV (kds ++ [(prD t, .tuple [prD F[i].1, .int ((j : Nat) : Int)])]) := e3
              rw [put_put, pF_app (r := F[i].2 ++ [j])]
              refine ⟨rfl, G ++ [(t, F[i].2 ++ [j])], kds ++ [(prD t, .tuple [prD F[i].1, .int ((j : Nat) : Int)])], _, _, rfl, gG.add ht.1 ht.2 hn, ⟨X ++ [(t, F[i].2 ++ [j])], by rw [eG, List.append_assoc]⟩, (Stk.snoc (hs.more (G := [(t, F[i].2 ++ [j])])) hk.more), ?_, ha⟩
              exact congrArg (fun u => put (puto Ω d (.dd w d u)) p (pF (G ++ [(t, F[i].2 ++ [j])]))) e4
          · have z' : (!(valD (datV kds) (prD t)).isSome) = false := z
            rw [hk.val] at z'
            have hn : t ∈ G.map (·.1) := by simpa using z'
            rw [if_pos hn] at ha
            exact ⟨rfl, G, kds, _, _, rfl, gG, ⟨X, eG⟩, hk, rfl, ha⟩
        · rintro Γ' Ω' ⟨-, G, kds, x6, x7, rfl, gG, ⟨X, eG⟩, hk, rfl, ha⟩
          rw [enumA_len, List.length_map, List.drop_length] at ha
          have ha' : G = addP F[i].2 0 F (tgts W V F[i].1) := ha
          refine ⟨W.length * V.length + 1 - (i + 1), by omega, G, i + 1, kds, _, _, _, rfl, rfl, gG, by rw [eG, List.length_append]; omega, hk, rfl, ?_⟩
          rw [ha', show W.length * V.length + 1 - (i + 1) = W.length * V.length - i by omega]
          exact hb
      · have he : i = F.length := by
          have := of_decide_eq_false z
          rw [pF_len] at this
          omega
        subst he
        rw [bfs_end] at hb
        subst hb
        exact ⟨kds, _, _, _, _, _, rfl, hk, rfl⟩
  rintro Γ' Ω' ⟨kds, y3, y4, y5, y6, y7, rfl, hk, rfl⟩
  refine s_forget (p := p) put_same ?_
  rw [del_put (show (puto Ω d (.dd w d (datV kds))) p = none from np')]
  exact s_ret (e_var rfl (h d kds od hk))
end
end K05

set_option Elab.async false
set_option linter.all false
set_option maxRecDepth 100000
set_option maxHeartbeats 1000000
namespace K05
open PySem PySem.Spec PyProof.Rows L2 Dat Dkd LamX NdefX Clo
local macro_rules | `(tactic| trivial) => `(tactic| (first
  | (with_reducible refine s_seq ?_)
  | (with_reducible refine s_asg ?_)
  | (with_reducible refine s_ret ?_)
  | (with_reducible refine s_drop ?_)
  | (with_reducible refine s_next ?_)
  | (with_reducible refine s_retN ?_)
  | (with_reducible refine s_brk ?_)
  | (with_reducible refine s_cont ?_)
  | (with_reducible refine s_if ?_)
  | (with_reducible refine e_int ?_)
  | (with_reducible refine e_str ?_)
  | (with_reducible refine e_bl ?_)
  | (with_reducible refine e_non ?_)
  | (with_reducible refine e_ty ?_)
  | (with_reducible refine e_tupD ?_)
  | (with_reducible refine e_lstD ?_)
  | (with_reducible refine e_op ?_)
  | (with_reducible refine e_un ?_)
  | (with_reducible refine e_then ?_)
  | (with_reducible refine e_cb ?_)
  | (with_reducible refine e_call ?_)
  | (with_reducible refine e_if ?_)
  | (with_reducible refine e_chain ?_)
  | (with_reducible refine e_andV ?_)
  | (with_reducible refine e_orV ?_)
  | (with_reducible refine e_notV ?_)
  | (with_reducible refine a_cons ?_)
  | (with_reducible refine a_nil ?_)
  | (with_reducible refine t_test ?_)
  | (with_reducible refine t_B ?_)
  | (with_reducible refine t_not ?_)
  | (with_reducible refine t_and ?_)
  | (with_reducible refine t_or ?_)
  | (with_reducible refine r_I0i ?_)
  | (with_reducible refine r_I0b ?_)
  | (with_reducible refine r_neg ?_)
  | (with_reducible refine r_isN ?_)
  | (with_reducible refine r_notN ?_)
  | (with_reducible refine c_lenT ?_)
  | (with_reducible refine c_lenL ?_)
  | (with_reducible refine c_intI ?_)
  | (with_reducible refine c_intB ?_)
  | (with_reducible refine c_max2 ?_)
  | (with_reducible refine c_min2 ?_)
  | (with_reducible refine c_abs ?_)
  | (with_reducible refine r_tupL ?_)
  | (with_reducible refine r_tupT ?_)
  | (with_reducible refine c_allM ?_)
  | ((with_reducible apply e_var); (exact rfl))
  | ((with_reducible refine r_eq ?_ ?_); (exact rfl))
  | ((with_reducible refine r_ne ?_ ?_); (exact rfl))
  | (with_reducible refine c_isi kit_int ?_)
  | (with_reducible refine c_isi kit_bool ?_)
  | (with_reducible refine c_isi kit_tuple ?_)
  | (with_reducible refine c_isi kit_list ?_)
  | (with_reducible refine c_isi kit_str ?_)
  | ((with_reducible apply r_ixT); (exact rfl))
  | ((with_reducible apply dats_pack); (iterate 40 (first | exact Dats.nil | apply Dats.cons | skip)); (exact rfl))
  | (with_reducible refine s_asgG ?_) | (with_reducible refine g_name ?_) | ((with_reducible refine g_tup ?_ ?_); (exact rfl)) | (refine gs_nil ?_) | (refine gs_cons ?_) | (with_reducible refine ⟨rfl, ?_⟩)
  | (refine ⟨_, rfl, ?_⟩) | (refine ⟨_, _, rfl, ?_⟩) | (refine ⟨_, _, _, rfl, ?_⟩) | (with_reducible refine ⟨fun _ => ?_, fun _ => ?_⟩) | fail))
/-! ### pair_steps -/
abbrev N_ps : List Str := ["web", "other", "pairs_behind"]
theorem sc_ps : FnScope N_ps ["web", "other"] (defScope s_pair_steps) := ⟨rfl, rfl, rfl, by decide +kernel, rfl, by decide +kernel, by decide +kernel⟩
section
variable {P : Program} {w : World} {K : PySem.W.Frag} [Tb K] {mg : Str → Option Value} {base : Heap}
abbrev wEnv (L f cw : Addr) : Env := envOfC "pair_steps" (defScope s_pair_steps) L f (.ref cw)
abbrev pbQ : Str := (wEnv 0 0 0).qual ++ "pairs_behind"
abbrev spSteps (w : World) : ASp := fun as Ω P => ∃ W V : Web, as = [.dat (webD W), .dat (webD V)] ∧ WOk W ∧ WOk V ∧ ∀ d kds, Ω.Off d → Stk (met W V) (met W V) kds → P (.ptr d) (puto Ω d (.dd w d (datV kds)))
theorem ok_pair_steps (T : Top P K mg) {Pw : Addr} (TB : TabB base mg T.cw Pw) (hT : Tb.T (K := K) = [(Pw, pbQ)]) : FnOk P w K mg base CX0 3 T.f_pair_steps T.d_pair_steps ["web", "other"] (spA K (spSteps w)) := by
  refine fnA_okC T.D_pair_steps sc_ps (fun as Ω P ⟨W, V, e, _⟩ => by subst e; rfl) (fun A outer s H E hr => ?_)
  have fr1 : ∀ y ∈ (C8.fnScope pbSt).names, y.2 = .free → (defScope s_pair_steps).names.lookup y.1 = some .cell ∨ (defScope s_pair_steps).names.lookup y.1 = some .free := ndef_free (fr := ["web", "other"]) (by decide +kernel)
  have fr2 : ∀ y ∈ (["web", "other"] : List Str), (y, NameKind.free) ∈ (C8.fnScope pbSt).names := ndef_fr (sc := defScope s_pair_steps) (by decide +kernel)
  have hm : (Pw, fun _ _ => pbQ) ∈ tabsOf K := by
    unfold tabsOf
    rw [hT]
    exact List.mem_singleton.mpr rfl
  have hu : ∀ p ∈ tabsOf K, p.1 = Pw → p.2 = fun _ _ => pbQ := fun p hp _ => by
    unfold tabsOf at hp
    rw [hT] at hp
    rw [List.mem_singleton.mp hp]
  refine ⟨_, pss_cons (ps_ndefS (T := tabsOf K) (nm := fun _ _ => pbQ) (st := pbSt) (i := 2) rfl TB rfl hm rfl hu fr1 rfl rfl rfl sc_ps.nd rfl (.inl rfl) (.inr rfl)) (pss_one (ps_ret (pe_callC (k := 2) (j := 2) (cl := cloFrom (wEnv s.heap.objs.size T.f_pair_steps T.cw).cells (C8.fnScope pbSt).names []) (fr := ["web", "other"]) (js := [0, 1])
    (fun f c' => ok_search T pbQ (cloFrom (wEnv s.heap.objs.size T.f_pair_steps T.cw).cells (C8.fnScope pbSt).names []) f c')
    (fun f c' ws vs H Q E h => by
      obtain ⟨F0, Ω, as, P, cap, k0, va, _, ⟨W, V, _, e, _⟩, _⟩ := h
      rw [va.length, e]
      rfl) (fun ok => Caps.made ok fr1 fr2 rfl) hr (Nat.le_refl _) rfl T.D_search.g T.D_search.F.kp T.D_search.b pass0
    (pa_cons (pe_tup (pa_cons pe_int (pa_cons pe_int pa_nil))) (pa_cons (pe_var (i := 2) rfl (.inl rfl)) pa_nil))))), ?_⟩
  rintro as Ω P ⟨W, V, rfl, o, o2, h⟩
  refine s_seq (s_ndef (fun _ => rfl) fun f c' => ?_)
  exact s_ret (e_callN2 (da := webD W) (db := webD V) rfl rfl rfl (e_tupD (a_cons (e_int (a_cons (e_int (a_nil ⟨_, .cons (.cons .nil), rfl, fun sa sb => ⟨W, V, rfl, rfl, o, o2, h⟩⟩)))))))
end
end K05

set_option Elab.async false
set_option linter.all false
set_option maxRecDepth 100000
set_option maxHeartbeats 1000000
namespace K05
open PySem PySem.Spec PyProof.Rows L2 Dat Dkd LamX NdefX Clo
local macro_rules | `(tactic| trivial) => `(tactic| (first
  | (with_reducible refine s_seq ?_)
  | (with_reducible refine s_asg ?_)
  | (with_reducible refine s_ret ?_)
  | (with_reducible refine s_drop ?_)
  | (with_reducible refine s_next ?_)
  | (with_reducible refine s_retN ?_)
  | (with_reducible refine s_brk ?_)
  | (with_reducible refine s_cont ?_)
  | (with_reducible refine s_if ?_)
  | (with_reducible refine e_int ?_)
  | (with_reducible refine e_str ?_)
  | (with_reducible refine e_bl ?_)
  | (with_reducible refine e_non ?_)
  | (with_reducible refine e_ty ?_)
  | (with_reducible refine e_tupD ?_)
  | (with_reducible refine e_lstD ?_)
  | (with_reducible refine e_op ?_)
  | (with_reducible refine e_un ?_)
  | (with_reducible refine e_then ?_)
  | (with_reducible refine e_cb ?_)
  | (with_reducible refine e_call ?_)
  | (with_reducible refine e_if ?_)
  | (with_reducible refine e_chain ?_)
  | (with_reducible refine e_andV ?_)
  | (with_reducible refine e_orV ?_)
  | (with_reducible refine e_notV ?_)
  | (with_reducible refine a_cons ?_)
  | (with_reducible refine a_nil ?_)
  | (with_reducible refine t_test ?_)
  | (with_reducible refine t_B ?_)
  | (with_reducible refine t_not ?_)
  | (with_reducible refine t_and ?_)
  | (with_reducible refine t_or ?_)
  | (with_reducible refine r_I0i ?_)
  | (with_reducible refine r_I0b ?_)
  | (with_reducible refine r_neg ?_)
  | (with_reducible refine r_isN ?_)
  | (with_reducible refine r_notN ?_)
  | (with_reducible refine c_lenT ?_)
  | (with_reducible refine c_lenL ?_)
  | (with_reducible refine c_intI ?_)
  | (with_reducible refine c_intB ?_)
  | (with_reducible refine c_max2 ?_)
  | (with_reducible refine c_min2 ?_)
  | (with_reducible refine c_abs ?_)
  | (with_reducible refine r_tupL ?_)
  | (with_reducible refine r_tupT ?_)
  | (with_reducible refine c_allM ?_)
  | ((with_reducible apply e_var); (exact rfl))
  | ((with_reducible refine r_eq ?_ ?_); (exact rfl))
  | ((with_reducible refine r_ne ?_ ?_); (exact rfl))
  | (with_reducible refine c_isi kit_int ?_)
  | (with_reducible refine c_isi kit_bool ?_)
  | (with_reducible refine c_isi kit_tuple ?_)
  | (with_reducible refine c_isi kit_list ?_)
  | (with_reducible refine c_isi kit_str ?_)
  | ((with_reducible apply r_ixT); (exact rfl))
  | ((with_reducible apply dats_pack); (iterate 40 (first | exact Dats.nil | apply Dats.cons | skip)); (exact rfl))
  | (with_reducible refine s_asgG ?_) | (with_reducible refine g_name ?_) | ((with_reducible refine g_tup ?_ ?_); (exact rfl)) | (refine gs_nil ?_) | (refine gs_cons ?_) | (with_reducible refine ⟨rfl, ?_⟩)
  | (refine ⟨_, rfl, ?_⟩) | (refine ⟨_, _, rfl, ?_⟩) | (refine ⟨_, _, _, rfl, ?_⟩) | (with_reducible refine ⟨fun _ => ?_, fun _ => ?_⟩) | fail))
/-! ### the way back -/
theorem Ste.row {G : Fo} {r : List Nat} {d : PyData} (h : Ste G r d) : (r = [] ∧ d = .none) ∨ ∃ (y : Pr) (r' : List Nat) (i : Nat), (y, r') ∈ G ∧ r = r' ++ [i] ∧ d = .tuple [prD y, .int ((i : Nat) : Int)] := by
  cases h with
  | nil => exact .inl ⟨rfl, rfl⟩
  | snoc h => exact .inr ⟨_, _, _, h, rfl, rfl⟩
theorem Stk.look {G : Fo} {x : Pr} {r : List Nat} : ∀ {F : Fo} {l : List Fe}, Stk G F (dataL l) → (F.map (·.1)).Nodup → (x, r) ∈ F → ∃ d, lookL l (prD x) = some d ∧ Ste G r d
  | [], _, _, _, h => nomatch h
  | y :: F, [], c, _, _ => c.elim
  | y :: F, e :: l, ⟨a, b, c⟩, nd, h => by
    rw [List.map_cons, List.nodup_cons] at nd
    rcases List.mem_cons.mp h with h | h
    · subst h
      refine ⟨e.2.2.2, ?_, b⟩
      unfold lookL
      rw [List.find?_cons]
      have : decide (e.1 = prD x) = true := decide_eq_true a
      rw [this]
      rfl
    · obtain ⟨d, hd, sd⟩ := Stk.look c nd.2 h
      refine ⟨d, ?_, sd⟩
      unfold lookL at hd ⊢
      rw [List.find?_cons]
      have ne : y.1 ≠ x := fun z => nd.1 (z ▸ List.mem_map_of_mem h)
      have : decide (e.1 = prD x) = false := decide_eq_false fun z => ne (prD_inj (a ▸ z))
      rw [this]
      exact hd
def iR (r : List Nat) : List PyData := r.map fun i => .int ((i : Nat) : Int)
/-- no walk is as long as there are pairs -/
def Short (F : Fo) : Prop := ∀ x ∈ F, x.2.length < F.length
theorem Short.addP {row : List Nat} : ∀ {ts : List Pr} {j : Nat} {F : Fo}, Short F → row.length < F.length → Short (K05.addP row j F ts)
  | [], _, _, h, _ => h
  | t :: r, j, F, h, hr => by
    rw [addP_cons]
    split
    · exact Short.addP h hr
    · refine Short.addP (fun x hx => ?_) (by rw [List.length_append]; omega)
      rw [List.length_append]
      rcases List.mem_append.mp hx with hx | hx
      · have := h x hx
        omega
      · rw [List.mem_singleton.mp hx]
        show (row ++ [j]).length < _
        rw [List.length_append]
        simp only [List.length_cons, List.length_nil]
        omega
theorem Short.bfs {W V : Web} : ∀ {k i : Nat} {F : Fo}, Short F → Short (K05.bfs W V k F i)
  | 0, _, _, h => h
  | k + 1, i, F, h => by
    cases e : F[i]? with
    | none =>
      have : K05.bfs W V (k + 1) F i = F := by
        show (match F[i]? with | none => F | some x => K05.bfs W V k (K05.addP x.2 0 F (tgts W V x.1)) (i + 1)) = _
        rw [e]
      rw [this]
      exact h
    | some x =>
      rw [bfs_step e]
      exact Short.bfs (h.addP (h x (List.mem_of_getElem? e)))
theorem met_short {W V : Web} : Short (met W V) := Short.bfs fun x hx => by
  rw [List.mem_singleton.mp hx]
  decide
section
variable {P : Program} {w : World} {K : PySem.W.Frag} [Tb K] {mg : Str → Option Value} {base : Heap}
abbrev spBack (w : World) : ASp := fun as Ω P => ∃ (G : Fo) (p : Addr) (ep : Nat) (l : List Fe) (x : Pr) (r : List Nat), as = [FzD w p ep l, .dat (prD x)] ∧ KeysL l ∧ (G.map (·.1)).Nodup ∧ Stk G G (dataL l) ∧ (x, r) ∈ G ∧ r.length ≤ 14400 ∧ ∀ q, Ω.Off q → P (.ptr q) (put Ω q ((iR r).map .dat))
theorem ok_walk_back (T : Top P K mg) : FnOk P w K mg base CX0 1 T.f_walk_back T.d_walk_back ["steps", "place"] (spA K (spBack w)) := by
  refine fnA_ok T.D_walk_back.F sc_walk_back (fun as Ω P ⟨G, p, ep, l, x, r, e, _⟩ => by subst e; rfl) (fun cdv A outer s H E hr => ?_)
  refine ⟨_, (pss_cons (ps_set (i := 2) sc_walk_back.nd rfl (.inl rfl) (pe_lst pa_nil))
    (pss_cons (ps_while PassesOwn.never (pt_cmpR Dat.op_notNo (Dat.pe_dgetQ (K := K) (w := w) rfl rfl (by exact hu9 hr) (pv 0) (pv 1) (fun _ _ => rfl)) pe_non (nomark _))
      (pss_cons (ps_asg (Dat.pe_dgetQ (K := K) (w := w) rfl rfl (by exact hu9 hr) (pv 0) (pv 1) (fun _ _ => rfl)) (Dat.pgT (K := K) (n := 2) rfl rfl (pgs_cons (pg_name (i := 1) sc_walk_back.nd rfl (.inl rfl)) (pgs_cons (pg_name (i := 3) sc_walk_back.nd rfl (.inl rfl)) pgs_nil))))
      (pss_one (ps_expr (Dat.appQ (K := K) rfl (pv 2) (pa_cons (pv 3) pa_nil))))))
    (pss_one (ps_ret (pe_revL (pv 2)))))), ?_⟩
  rintro as Ω P ⟨G, p, ep, l, x, r, rfl, hkl, hnd, hst, hm, hl, h⟩
  refine s_seq (s_asg (e_lstP (a_nil ⟨by decide, fun u nu => ?_⟩)))
  refine s_seqM (fun Γ' Ω' => ∃ (y1 y3 : Option Av), Γ' = [some (FzD w p ep l), y1, some (.ptr u), y3] ∧ Ω' = put Ω u ((iR r.reverse).map .dat)) ?_ ?_
  · refine s_while (fun m Γ' Ω' => ∃ (y : Pr) (r1 r2 : List Nat) (x3 : Option Av), m = r1.length ∧ Γ' = [some (FzD w p ep l), some (.dat (prD y)), some (.ptr u), x3] ∧ (y, r1) ∈ G ∧ r = r1 ++ r2 ∧ Ω' = put Ω u ((iR r2.reverse).map .dat)) r.length ?_ ?_
    · exact ⟨x, r, [], _, rfl, rfl, hm, (List.append_nil r).symm, rfl⟩
    · rintro m Γ' Ω' ⟨y, r1, r2, x3, rfl, rfl, hy, er, rfl⟩
      obtain ⟨d, hd, sd⟩ := hst.look hnd hy
      refine t_test (e_op (e_dgetF (e_var rfl ⟨p, ep, l, rfl, hkl, e_var rfl ⟨_, d, rfl, prK y, hd, ?_⟩⟩)))
      refine e_non (r_notN ⟨_, rfl, fun z => ?_, fun z => ?_⟩)
      · rcases sd.row with ⟨_, e⟩ | ⟨y', r', i, h', e1, e2⟩
        · rw [e] at z
          cases z
        · subst e1 e2
          refine s_seq (s_asgG (e_dgetF (e_var rfl ⟨p, ep, l, rfl, hkl, e_var rfl ⟨_, _, rfl, prK y, hd, g_tup rfl (gs_cons (g_name ⟨rfl, gs_cons (g_name ⟨rfl, gs_nil ?_⟩)⟩))⟩⟩)))
          refine s_drop (e_app (e_var rfl ⟨u, rfl, ⟨_, put_same⟩, a_cons (e_var rfl (a_nil ⟨_, _, rfl, put_same, ?_, ?_⟩))⟩))
          · unfold iR
            rw [List.length_map, List.length_map, List.length_reverse]
            have := congrArg List.length er
            rw [List.length_append] at this
            omega
          · rw [put_put]
            refine ⟨r'.length, by rw [List.length_append]; simp, y', r', i :: r2, _, rfl, rfl, h', by rw [er, List.append_assoc]; rfl, ?_⟩
            unfold iR
            rw [List.reverse_cons, List.map_append, List.map_append]
            rfl
      · rcases sd.row with ⟨e, _⟩ | ⟨y', r', i, h', e1, e2⟩
        · subst e
          have er' : r = r2 := er
          exact ⟨_, _, rfl, by rw [er']⟩
        · rw [e2] at z
          cases z
  rintro Γ' Ω' ⟨y1, y3, rfl, rfl⟩
  refine s_ret (EW.forget (e_revP (e_var rfl ⟨u, _, rfl, put_same, fun q nq => ⟨u, iR r.reverse, ?_, ?_⟩⟩)))
  · have ne : u ≠ q := fun e => by
      have := nq.1
      rw [← e, put_same] at this
      cases this
    rw [put_ne ne, put_same]
  · have ne : u ≠ q := fun e => by
      have := nq.1
      rw [← e, put_same] at this
      cases this
    have nq' : Ω.Off q := by
      refine ⟨?_, nq.2⟩
      have := nq.1
      rw [put_ne ne.symm] at this
      exact this
    have nu' : Ω u = none := nu
    rw [Dat.put_comm ne, del_put (by rw [put_ne ne]; exact nu')]
    have e : ((iR r.reverse).map Av.dat).reverse = (iR r).map Av.dat := by
      unfold iR
      rw [← List.map_reverse, ← List.map_reverse, List.reverse_reverse]
    rw [e]
    exact h q nq'
end
end K05

set_option Elab.async false
set_option linter.all false
set_option maxRecDepth 100000
set_option maxHeartbeats 1000000
namespace K05
open PySem PySem.Spec PyProof.Rows L2 Dat Dkd LamX NdefX Clo
local macro_rules | `(tactic| trivial) => `(tactic| (first
  | (with_reducible refine s_seq ?_)
  | (with_reducible refine s_asg ?_)
  | (with_reducible refine s_ret ?_)
  | (with_reducible refine s_drop ?_)
  | (with_reducible refine s_next ?_)
  | (with_reducible refine s_retN ?_)
  | (with_reducible refine s_brk ?_)
  | (with_reducible refine s_cont ?_)
  | (with_reducible refine s_if ?_)
  | (with_reducible refine e_int ?_)
  | (with_reducible refine e_str ?_)
  | (with_reducible refine e_bl ?_)
  | (with_reducible refine e_non ?_)
  | (with_reducible refine e_ty ?_)
  | (with_reducible refine e_tupD ?_)
  | (with_reducible refine e_lstD ?_)
  | (with_reducible refine e_op ?_)
  | (with_reducible refine e_un ?_)
  | (with_reducible refine e_then ?_)
  | (with_reducible refine e_cb ?_)
  | (with_reducible refine e_call ?_)
  | (with_reducible refine e_if ?_)
  | (with_reducible refine e_chain ?_)
  | (with_reducible refine e_andV ?_)
  | (with_reducible refine e_orV ?_)
  | (with_reducible refine e_notV ?_)
  | (with_reducible refine a_cons ?_)
  | (with_reducible refine a_nil ?_)
  | (with_reducible refine t_test ?_)
  | (with_reducible refine t_B ?_)
  | (with_reducible refine t_not ?_)
  | (with_reducible refine t_and ?_)
  | (with_reducible refine t_or ?_)
  | (with_reducible refine r_I0i ?_)
  | (with_reducible refine r_I0b ?_)
  | (with_reducible refine r_neg ?_)
  | (with_reducible refine r_isN ?_)
  | (with_reducible refine r_notN ?_)
  | (with_reducible refine c_lenT ?_)
  | (with_reducible refine c_lenL ?_)
  | (with_reducible refine c_intI ?_)
  | (with_reducible refine c_intB ?_)
  | (with_reducible refine c_max2 ?_)
  | (with_reducible refine c_min2 ?_)
  | (with_reducible refine c_abs ?_)
  | (with_reducible refine r_tupL ?_)
  | (with_reducible refine r_tupT ?_)
  | (with_reducible refine c_allM ?_)
  | ((with_reducible apply e_var); (exact rfl))
  | ((with_reducible refine r_eq ?_ ?_); (exact rfl))
  | ((with_reducible refine r_ne ?_ ?_); (exact rfl))
  | (with_reducible refine c_isi kit_int ?_)
  | (with_reducible refine c_isi kit_bool ?_)
  | (with_reducible refine c_isi kit_tuple ?_)
  | (with_reducible refine c_isi kit_list ?_)
  | (with_reducible refine c_isi kit_str ?_)
  | ((with_reducible apply r_ixT); (exact rfl))
  | ((with_reducible apply dats_pack); (iterate 40 (first | exact Dats.nil | apply Dats.cons | skip)); (exact rfl))
  | (with_reducible refine s_asgG ?_) | (with_reducible refine g_name ?_) | ((with_reducible refine g_tup ?_ ?_); (exact rfl)) | (refine gs_nil ?_) | (refine gs_cons ?_) | (with_reducible refine ⟨rfl, ?_⟩)
  | (refine ⟨_, rfl, ?_⟩) | (refine ⟨_, _, rfl, ?_⟩) | (refine ⟨_, _, _, rfl, ?_⟩) | (with_reducible refine ⟨fun _ => ?_, fun _ => ?_⟩) | fail))
/-! ### where two webs part, as the law finds it -/
def same (W V : Web) (x : Pr) (j : Nat) : Bool := match (look W x.1)[j]?, (look V x.2)[j]? with
  | some m, some m' => decide (m.1 = m'.1)
  | _, _ => false
def most (W V : Web) (x : Pr) : Nat := max (look W x.1).length (look V x.2).length
def unlike (W V : Web) (x : Pr) : Option Nat := (List.range (most W V x)).find? fun j => !same W V x j
def apart (W V : Web) : Option (List Nat) := (met W V).findSome? fun x => (unlike W V x.1).map fun j => x.2 ++ [j]
def apD (W V : Web) : PyData := match apart W V with
  | some r => .list (iR r)
  | none => .none
def pfD (F : Fo) : List PyData := F.map fun x => prD x.1
def rwD (F : Fo) : List PyData := F.map fun x => .list (iR x.2)
theorem pf_shaped (F : Fo) : SeqAt.shaped (.list (pfD F)) = true := by
  have h : PyData.canLayAll0 (pfD F) = true ∧ PyData.depthAll (pfD F) ≤ 1 := by
    unfold pfD
    induction F with
    | nil => exact ⟨rfl, by simp [PyData.depthAll]⟩
    | cons x F ih =>
      rw [List.map_cons]
      constructor
      · simp [PyData.canLayAll0, prD, PyData.canLay0]
        exact ih.1
      · have h1 : (prD x.1).depth = 1 := by simp [prD, PyData.depth, PyData.depthAll]
        rw [PyData.depthAll, h1]
        have := ih.2
        omega
  unfold SeqAt.shaped
  have e1 : (PyData.list (pfD F)).canLay0 = true := by
    simp only [PyData.canLay0]
    exact h.1
  have e2 : (PyData.list (pfD F)).depth ≤ 64 := by
    simp only [PyData.depth]
    have := h.2
    omega
  rw [e1, Bool.true_and]
  exact decide_eq_true e2
theorem pr_shaped (x : Pr) : SeqAt.shaped (prD x) = true := by
  unfold SeqAt.shaped
  simp [prD, PyData.canLay0, PyData.canLayAll0, PyData.depth, PyData.depthAll]
theorem pf_any {F : Fo} {t : Pr} : ((pfD F).any fun z => PyData.eqv z (prD t)) = decide (t ∈ F.map (·.1)) := by
  unfold pfD
  induction F with
  | nil => rfl
  | cons x F ih =>
    rw [List.map_cons, List.any_cons, ih, List.map_cons]
    have : PyData.eqv (prD x.1) (prD t) = decide (x.1 = t) := by
      obtain ⟨⟨a, b⟩, r⟩ := x
      obtain ⟨c, d⟩ := t
      simp [prD, PyData.eqv, PyData.eqvAll, Prod.mk.injEq]
      rw [Bool.eq_iff_iff]
      simp only [Bool.and_eq_true, beq_iff_eq, decide_eq_true_eq]
      omega
    rw [this]
    by_cases e : x.1 = t
    · simp [e]
    · simp [e, Ne.symm e, List.mem_cons]
theorem tgts_len {W V : Web} {x : Pr} : (tgts W V x).length = min (look W x.1).length (look V x.2).length := by
  unfold tgts
  rw [List.length_map, List.length_zip]
theorem unlike_none {W V : Web} {x : Pr} (h : ∀ k, k < most W V x → same W V x k = true) : unlike W V x = none := by
  unfold unlike
  rw [List.find?_eq_none]
  intro k hk
  rw [h k (List.mem_range.mp hk)]
  decide
theorem unlike_some {W V : Web} {x : Pr} {j : Nat} (hj : j < most W V x) (h : ∀ k, k < j → same W V x k = true) (hn : same W V x j = false) : unlike W V x = some j := by
  unfold unlike
  rw [List.find?_eq_some_iff_append]
  refine ⟨by rw [hn]; rfl, List.range j, (List.range (most W V x - (j + 1))).map (fun k => j + 1 + k), ?_, fun a ha => ?_⟩
  · have e : most W V x = (j + 1) + (most W V x - (j + 1)) := by omega
    rw [e, List.range_add, List.range_succ, List.append_assoc]
    congr 2
    rw [show j + 1 + (most W V x - (j + 1)) - (j + 1) = most W V x - (j + 1) by omega]
    rfl
  · rw [h a (List.mem_range.mp ha)]
    rfl
theorem same_len {W V : Web} {x : Pr} {j : Nat} (h : same W V x j = true) : j < (look W x.1).length ∧ j < (look V x.2).length := by
  unfold same at h
  split at h
  · next m m' e1 e2 => exact ⟨(List.getElem?_eq_some_iff.mp e1).1, (List.getElem?_eq_some_iff.mp e2).1⟩
  · cases h
theorem apart_at {W V : Web} {F : Fo} {i j : Nat} {x : Pr × List Nat} (hx : F[i]? = some x) (hG : ∃ G, met W V = F ++ G) (hb : ∀ (k : Nat) (y : Pr × List Nat), k < i → F[k]? = some y → unlike W V y.1 = none) (hj : unlike W V x.1 = some j) : apart W V = some (x.2 ++ [j]) := by
  obtain ⟨G, e⟩ := hG
  unfold apart
  have hi := (List.getElem?_eq_some_iff.mp hx).1
  have e2 : F = F.take i ++ x :: F.drop (i + 1) := by
    have := List.drop_eq_getElem_cons hi
    rw [(List.getElem?_eq_some_iff.mp hx).2] at this
    rw [← this, List.take_append_drop]
  rw [e, e2, List.append_assoc, List.findSome?_append, List.findSome?_eq_none_iff.mpr]
  · rw [List.cons_append, List.findSome?_cons, hj]
    rfl
  · intro y hy
    obtain ⟨k, hk, ek⟩ := List.mem_take_iff_getElem.mp hy
    have hk2 : F[k]? = some y := by rw [List.getElem?_eq_getElem (by omega), ek]
    rw [hb k y (by omega) hk2]
    rfl
theorem apart_none {W V : Web} (hb : ∀ (k : Nat) (y : Pr × List Nat), (met W V)[k]? = some y → unlike W V y.1 = none) : apart W V = none := by
  unfold apart
  rw [List.findSome?_eq_none_iff]
  intro y hy
  obtain ⟨k, hk, e⟩ := List.getElem_of_mem hy
  rw [hb k y (by rw [List.getElem?_eq_getElem hk, e])]
  rfl
end K05

set_option Elab.async false
set_option linter.all false
set_option maxRecDepth 100000
set_option maxHeartbeats 1000000
namespace K05
open PySem PySem.Spec PyProof.Rows L2 Dat Dkd LamX NdefX Clo
local macro_rules | `(tactic| trivial) => `(tactic| (first
  | (with_reducible refine s_seq ?_)
  | (with_reducible refine s_asg ?_)
  | (with_reducible refine s_ret ?_)
  | (with_reducible refine s_drop ?_)
  | (with_reducible refine s_next ?_)
  | (with_reducible refine s_retN ?_)
  | (with_reducible refine s_brk ?_)
  | (with_reducible refine s_cont ?_)
  | (with_reducible refine s_if ?_)
  | (with_reducible refine e_int ?_)
  | (with_reducible refine e_str ?_)
  | (with_reducible refine e_bl ?_)
  | (with_reducible refine e_non ?_)
  | (with_reducible refine e_ty ?_)
  | (with_reducible refine e_tupD ?_)
  | (with_reducible refine e_lstD ?_)
  | (with_reducible refine e_op ?_)
  | (with_reducible refine e_un ?_)
  | (with_reducible refine e_then ?_)
  | (with_reducible refine e_cb ?_)
  | (with_reducible refine e_call ?_)
  | (with_reducible refine e_if ?_)
  | (with_reducible refine e_chain ?_)
  | (with_reducible refine e_andV ?_)
  | (with_reducible refine e_orV ?_)
  | (with_reducible refine e_notV ?_)
  | (with_reducible refine a_cons ?_)
  | (with_reducible refine a_nil ?_)
  | (with_reducible refine t_test ?_)
  | (with_reducible refine t_B ?_)
  | (with_reducible refine t_not ?_)
  | (with_reducible refine t_and ?_)
  | (with_reducible refine t_or ?_)
  | (with_reducible refine r_I0i ?_)
  | (with_reducible refine r_I0b ?_)
  | (with_reducible refine r_neg ?_)
  | (with_reducible refine r_isN ?_)
  | (with_reducible refine r_notN ?_)
  | (with_reducible refine c_lenT ?_)
  | (with_reducible refine c_lenL ?_)
  | (with_reducible refine c_intI ?_)
  | (with_reducible refine c_intB ?_)
  | (with_reducible refine c_max2 ?_)
  | (with_reducible refine c_min2 ?_)
  | (with_reducible refine c_abs ?_)
  | (with_reducible refine r_tupL ?_)
  | (with_reducible refine r_tupT ?_)
  | (with_reducible refine c_allM ?_)
  | ((with_reducible apply e_var); (exact rfl))
  | ((with_reducible refine r_eq ?_ ?_); (exact rfl))
  | ((with_reducible refine r_ne ?_ ?_); (exact rfl))
  | (with_reducible refine c_isi kit_int ?_)
  | (with_reducible refine c_isi kit_bool ?_)
  | (with_reducible refine c_isi kit_tuple ?_)
  | (with_reducible refine c_isi kit_list ?_)
  | (with_reducible refine c_isi kit_str ?_)
  | ((with_reducible apply r_ixT); (exact rfl))
  | ((with_reducible apply dats_pack); (iterate 40 (first | exact Dats.nil | apply Dats.cons | skip)); (exact rfl))
  | (with_reducible refine s_asgG ?_) | (with_reducible refine g_name ?_) | ((with_reducible refine g_tup ?_ ?_); (exact rfl)) | (refine gs_nil ?_) | (refine gs_cons ?_) | (with_reducible refine ⟨rfl, ?_⟩)
  | (refine ⟨_, rfl, ?_⟩) | (refine ⟨_, _, rfl, ?_⟩) | (refine ⟨_, _, _, rfl, ?_⟩) | (with_reducible refine ⟨fun _ => ?_, fun _ => ?_⟩) | fail))
section
variable {P : Program} {w : World} {K : PySem.W.Frag} [Tb K] {mg : Str → Option Value} {base : Heap}
abbrev spPairs : ASp := fun as Ω P => ∃ W V : Web, as = [.dat (webD W), .dat (webD V)] ∧ WOk W ∧ WOk V ∧ ∀ fs, P (.dat (.tuple [.list fs, apD W V])) Ω
theorem max_int {a b : Nat} : (if ((b : Nat) : Int) > ((a : Nat) : Int) then ((b : Nat) : Int) else ((a : Nat) : Int)) = ((max a b : Nat) : Int) := by
  split <;> omega
theorem ok_law_pairs (T : Top P K mg) : FnOk P w K mg base CX0 1 T.f__law_pairs T.d__law_pairs ["_law_net", "_law_twin"] (spA K spPairs) := by
  refine fnA_ok T.D__law_pairs.F sc__law_pairs (fun as Ω P ⟨W, V, e, _⟩ => by subst e; rfl) (fun cdv A outer s H E hr => ?_)
  refine ⟨_, (pss_cons (ps_par3 (i := 2) (j := 3) (l := 4) rfl sc__law_pairs.nd rfl rfl rfl (by decide) (by decide) (by decide) rfl rfl rfl (pa_cons (pe_lst (pa_cons (pe_tup (pa_cons pe_int (pa_cons pe_int pa_nil))) pa_nil)) (pa_cons (pe_lst (pa_cons (pe_lst pa_nil) pa_nil)) (pa_cons pe_int pa_nil))) (by rfl))
    (pss_cons (ps_while PassesOwn.never (pt_cmpR op_lt (pv 4) (pe_callB (Dat.lenQ (K := K) rfl) rfl T.b_len bt_len (pa_cons (pv 2) pa_nil)) (nomark _))
      (pss_cons (ps_par (i := 5) (j := 6) rfl sc__law_pairs.nd rfl rfl (by decide) rfl rfl (pa_cons (pe_ix (Dat.ixT (K := K) rfl) (pv 0) (pe_ix (Dat.ixT (K := K) rfl) (pe_ix (Dat.ixL (K := K) rfl) (pv 2) (pv 4) (fun _ _ => rfl)) pe_int (fun _ _ => rfl)) (fun _ _ => rfl)) (pa_cons (pe_ix (Dat.ixT (K := K) rfl) (pv 1) (pe_ix (Dat.ixT (K := K) rfl) (pe_ix (Dat.ixL (K := K) rfl) (pv 2) (pv 4) (fun _ _ => rfl)) pe_int (fun _ _ => rfl)) (fun _ _ => rfl)) pa_nil)) (by rfl))
      (pss_cons (ps_for PassesOwn.never rfl (pi_range1 rfl T.b_range (pa_cons (pe_callB (Dat.cl_max2 rfl) rfl T.b_max bt_max (pa_cons (pe_callB (Dat.lenQ (K := K) rfl) rfl T.b_len bt_len (pa_cons (pv 5) pa_nil)) (pa_cons (pe_callB (Dat.lenQ (K := K) rfl) rfl T.b_len bt_len (pa_cons (pv 6) pa_nil)) pa_nil))) pa_nil)) (pg_name (i := 7) sc__law_pairs.nd rfl (.inl rfl))
        (pss_cons (ps_if (PW.pt (pw_or (pt_cmpR op_ge (pv 7) (pe_callB (Dat.lenQ (K := K) rfl) rfl T.b_len bt_len (pa_cons (pv 5) pa_nil)) (nomark _)) (pw_or (pt_cmpR op_ge (pv 7) (pe_callB (Dat.lenQ (K := K) rfl) rfl T.b_len bt_len (pa_cons (pv 6) pa_nil)) (nomark _)) (pw_or1 (pt_cmpR op_ne (pe_ix (Dat.ixT (K := K) rfl) (pe_ix (Dat.ixT (K := K) rfl) (pv 5) (pv 7) (fun _ _ => rfl)) pe_int (fun _ _ => rfl)) (pe_ix (Dat.ixT (K := K) rfl) (pe_ix (Dat.ixT (K := K) rfl) (pv 6) (pv 7) (fun _ _ => rfl)) pe_int (fun _ _ => rfl)) (nomark _))))))
          (pss_one (ps_ret (pe_tup (pa_cons (pv 2) (pa_cons (pe_op op_cat (pe_ix (Dat.ixL (K := K) rfl) (pv 3) (pv 4) (fun _ _ => rfl)) (pe_lst (pa_cons (pv 7) pa_nil))) pa_nil)))))
          pss_nil)
        (pss_cons (ps_set (i := 8) sc__law_pairs.nd rfl (.inl rfl) (pe_tup (pa_cons (pe_ix (Dat.ixT (K := K) rfl) (pe_ix (Dat.ixT (K := K) rfl) (pv 5) (pv 7) (fun _ _ => rfl)) pe_int (fun _ _ => rfl)) (pa_cons (pe_ix (Dat.ixT (K := K) rfl) (pe_ix (Dat.ixT (K := K) rfl) (pv 6) (pv 7) (fun _ _ => rfl)) pe_int (fun _ _ => rfl)) pa_nil))))
        (pss_one (ps_if (pt_cmpR (op_niD (K := K) rfl (hu100 hr)) (pv 8) (pv 2) rfl)
          (pss_cons (ps_expr (Dat.appQ (K := K) rfl (pv 2) (pa_cons (pv 8) pa_nil)))
          (pss_one (ps_expr (Dat.appQ (K := K) rfl (pv 3) (pa_cons (pe_op op_cat (pe_ix (Dat.ixL (K := K) rfl) (pv 3) (pv 4) (fun _ _ => rfl)) (pe_lst (pa_cons (pv 7) pa_nil))) pa_nil)))))
          pss_nil)))))
      (pss_one (ps_set (i := 4) sc__law_pairs.nd rfl (.inl rfl) (pe_op op_add (pv 4) pe_int))))))
    (pss_one (ps_ret (pe_tup (pa_cons (pv 2) (pa_cons pe_non pa_nil))))))), ?_⟩
  rintro as Ω P ⟨W, V, rfl, o, o2, h⟩
  have NB : W.length * V.length ≤ 14400 := mul_le o.l2 o2.l2
  refine s_seq (s_par3 (a_cons (e_lstP (a_cons (e_tupD (a_cons (e_int (a_cons (e_int (a_nil ⟨_, .cons (.cons .nil), rfl, a_nil ⟨by decide, fun p np => ?_⟩⟩))))))))))
  refine a_cons (e_lstP (a_cons (EW.frz (e_lstP (a_nil ⟨by decide, fun v nv => ⟨v, [], rfl, put_same, a_nil ⟨by decide, fun u nu => a_cons (e_int (a_nil ⟨_, _, _, rfl, ?_⟩))⟩⟩⟩)))))
  rw [del_put nv] at nu ⊢
  have hpu : p ≠ u := fun e => by
    rw [← e, put_same] at nu
    cases nu
  have np' : Ω p = none := np
  have nu' : Ω u = none := by
    rw [put_ne hpu.symm] at nu
    exact nu
  have rp : ∀ A B, (put (put Ω p A) u B) p = some A := fun A B => by rw [put_ne hpu, put_same]
  have ru : ∀ A B, (put (put Ω p A) u B) u = some B := fun A B => put_same
  have wp : ∀ A B A', put (put (put Ω p A) u B) p A' = put (put Ω p A') u B := fun A B A' => by
    first
    | exact (Dat.put_comm hpu.symm).trans (by rw [put_put])
    | exact (Dat.put_comm hpu).trans (by rw [put_put])
  have cm : ∀ A B, put (put Ω p A) u B = put (put Ω u B) p A := fun A B => by
    first
    | exact Dat.put_comm hpu
    | exact Dat.put_comm hpu.symm
  refine s_seqM (fun Γ' Ω' => ∃ (F : Fo) (y4 y5 y6 y7 y8 : Option Av), Γ' = [some (.dat (webD W)), some (.dat (webD V)), some (.ptr p), some (.ptr u), y4, y5, y6, y7, y8] ∧ Ω' = put (put Ω p ((pfD F).map .dat)) u ((rwD F).map .dat) ∧ apart W V = none) ?_ ?_
  · refine s_while (fun m Γ' Ω' => ∃ (F : Fo) (i : Nat) (x5 x6 x7 x8 : Option Av), m = W.length * V.length + 1 - i ∧ Γ' = [some (.dat (webD W)), some (.dat (webD V)), some (.ptr p), some (.ptr u), some (.dat (.int ((i : Nat) : Int))), x5, x6, x7, x8] ∧
      Gd F W.length V.length ∧ Short F ∧ i ≤ F.length ∧ (∀ (k : Nat) (y : Pr × List Nat), k < i → F[k]? = some y → unlike W V y.1 = none) ∧ Ω' = put (put Ω p ((pfD F).map .dat)) u ((rwD F).map .dat) ∧ bfs W V (W.length * V.length + 1 - i) F i = met W V) (W.length * V.length + 1) ?_ ?_
    · exact ⟨[((0, 0), [])], 0, _, _, _, _, rfl, rfl, gd0 o o2, fun x hx => by rw [List.mem_singleton.mp hx]; decide, Nat.zero_le _, fun k y hk _ => absurd hk (Nat.not_lt_zero _), rfl, rfl⟩
    · rintro m Γ' Ω' ⟨F, i, x5, x6, x7, x8, rfl, rfl, g, sF, hi, hu, rfl, hb⟩
      have gl := g.len
      have pl : ((pfD F).map Av.dat).length = F.length := pF_len
      refine t_test (e_op (e_var rfl (e_cb (a_cons (e_var rfl (a_nil (c_lenP (rp _ _) (r_I0b ⟨_, rfl, fun z => ?_, fun z => ?_⟩))))))))
      · have hlt : i < F.length := by
          have := of_decide_eq_true z
          rw [pl] at this
          omega
        have ex : F[i]? = some F[i] := List.getElem?_eq_getElem hlt
        have hx := g.b _ (List.getElem_mem hlt)
        have ek : W.length * V.length + 1 - i = (W.length * V.length - i) + 1 := by omega
        rw [ek, bfs_step ex] at hb
        have tb := tgts_lt o o2 hx.1 hx.2
        have l1 := (o.nd _ (look_mem hx.1)).2
        have l2 := (o2.nd _ (look_mem hx.2)).2
        have hM : ∃ G, met W V = F ++ G := by
          obtain ⟨g1, G1, e1⟩ := g.addP (row := F[i].2) (j := 0) tb
          obtain ⟨_, G2, e2⟩ := bfs_gd o o2 (k := W.length * V.length - i) (i := i + 1) g1
          exact ⟨G1 ++ G2, by rw [← hb, e2, e1, List.append_assoc]⟩
        refine s_seq (s_par (a_cons (e_op (e_var rfl (e_op (e_op (e_var rfl (e_var rfl (r_ixP (rp _ _) (pF_at ex) (e_int (r_ixT rfl (r_ixT (web_at hx.1) (a_cons (e_op (e_var rfl (e_op (e_op (e_var rfl (e_var rfl (r_ixP (rp _ _) (pF_at ex) (e_int (r_ixT rfl (r_ixT (web_at hx.2) (a_nil ⟨_, _, rfl, ?_⟩))))))))))))))))))))))))
        refine s_seqM (fun Γ' Ω' => ∃ (x7 x8 : Option Av), Γ' = [some (.dat (webD W)), some (.dat (webD V)), some (.ptr p), some (.ptr u), some (.dat (.int ((i : Nat) : Int))), some (.dat (ndD (look W F[i].1.1))), some (.dat (ndD (look V F[i].1.2))), x7, x8] ∧ Ω' = put (put Ω p ((pfD (addP F[i].2 0 F (tgts W V F[i].1))).map .dat)) u ((rwD (addP F[i].2 0 F (tgts W V F[i].1))).map .dat) ∧ unlike W V F[i].1 = none) ?_ ?_
        · refine s_for (fun as j Γ' Ω' => as = rngA 0 (most W V F[i].1) ∧ ∃ (G : Fo) (x7 x8 : Option Av), Γ' = [some (.dat (webD W)), some (.dat (webD V)), some (.ptr p), some (.ptr u), some (.dat (.int ((i : Nat) : Int))), some (.dat (ndD (look W F[i].1.1))), some (.dat (ndD (look V F[i].1.2))), x7, x8] ∧
            Gd G W.length V.length ∧ Short G ∧ (∃ X, G = F ++ X) ∧ (∀ k, k < j → same W V F[i].1 k = true) ∧ Ω' = put (put Ω p ((pfD G).map .dat)) u ((rwD G).map .dat) ∧ addP F[i].2 j G ((tgts W V F[i].1).drop j) = addP F[i].2 0 F (tgts W V F[i].1)) ?_
          refine i_rng1 (a_cons (e_cb (a_cons (e_cb (a_cons (e_var rfl (a_nil (c_lenT (a_cons (e_cb (a_cons (e_var rfl (a_nil (c_lenT (a_nil (c_max2 (a_nil ⟨((most W V F[i].1 : Nat) : Int), ?_, ?_, ⟨?_, F, _, _, rfl, g, sF, ⟨[], (List.append_nil F).symm⟩, fun k hk => absurd hk (Nat.not_lt_zero _), rfl, rfl⟩, ?_, ?_⟩)))))))))))))))))
          · rw [List.length_map, List.length_map, max_int]
            rfl
          · have : most W V F[i].1 ≤ 1000 := by
              unfold most
              omega
            constructor <;> omega
          · rw [Int.toNat_natCast]
          · rintro j it Γ' Ω' hit ⟨-, G, x7, x8, rfl, gG, sG, ⟨X, eG⟩, hs, rfl, ha⟩
            rw [Int.toNat_natCast] at hit
            unfold rngA at hit
            obtain ⟨hj, et0⟩ := rng_at hit
            have et : it = .dat (.int ((j : Nat) : Int)) := by
              rw [et0]
              congr 2
              omega
            subst et
            clear et0
            have exG : G[i]? = some F[i] := by rw [eG, List.getElem?_append_left hlt, ex]
            have rA : atI ((rwD G).map Av.dat) ((i : Nat) : Int) = some (.dat (.list (iR F[i].2))) := by
              refine atI_nat ?_
              unfold rwD
              rw [List.map_map, List.getElem?_map, exG]
              rfl
            have lR : (iR F[i].2).length + [PyData.int ((j : Nat) : Int)].length ≤ 100000 := by
              have := sF F[i] (List.getElem_mem hlt)
              unfold iR
              rw [List.length_map, List.length_singleton]
              omega
            have eR : iR F[i].2 ++ [PyData.int ((j : Nat) : Int)] = iR (F[i].2 ++ [j]) := by
              unfold iR
              rw [List.map_append]
              rfl
            refine g_name (s_seq (s_ifB (b := !same W V F[i].1 j) ?_ (fun z => ?_) fun z => s_next ?_))
            · refine t_or (t_test (e_op (e_var rfl (e_cb (a_cons (e_var rfl (a_nil (c_lenT (r_I0b ⟨_, rfl, fun z1 => ?_, fun z1 => ?_⟩)))))))))
              · have : same W V F[i].1 j = false := by
                  cases e : same W V F[i].1 j with
                  | false => rfl
                  | true =>
                    have h1 := (same_len e).1
                    have h2 := of_decide_eq_true z1
                    rw [List.length_map] at h2
                    omega
                rw [this]
                exact ⟨rfl, rfl⟩
              refine t_or (t_test (e_op (e_var rfl (e_cb (a_cons (e_var rfl (a_nil (c_lenT (r_I0b ⟨_, rfl, fun z2 => ?_, fun z2 => ?_⟩)))))))))
              · have : same W V F[i].1 j = false := by
                  cases e : same W V F[i].1 j with
                  | false => rfl
                  | true =>
                    have h1 := (same_len e).2
                    have h2 := of_decide_eq_true z2
                    rw [List.length_map] at h2
                    omega
                rw [this]
                exact ⟨rfl, rfl⟩
              have j1 : j < (look W F[i].1.1).length := by
                have := of_decide_eq_false z1
                rw [List.length_map] at this
                omega
              have j2 : j < (look V F[i].1.2).length := by
                have := of_decide_eq_false z2
                rw [List.length_map] at this
                omega
              refine t_test (e_op (e_op (e_op (e_var rfl (e_var rfl (r_ixT (at_node (List.getElem?_eq_getElem j1)) (e_int (r_ixT rfl (e_op (e_op (e_var rfl (e_var rfl (r_ixT (at_node (List.getElem?_eq_getElem j2)) (e_int (r_ixT rfl (r_ne rfl ⟨_, rfl, ?_⟩))))))))))))))))
              refine ⟨?_, rfl⟩
              unfold same
              rw [List.getElem?_eq_getElem j1, List.getElem?_eq_getElem j2]
              rfl
            · have hap : apart W V = some (F[i].2 ++ [j]) := apart_at ex hM hu (unlike_some hj hs (by simpa using z))
              refine s_frz (ds := pfD G) 2 rfl (rp _ _) ?_
              rw [cm, del_put (by rw [put_ne hpu]; exact np')]
              refine s_ret (EW.forget (e_tupD (a_cons (e_var rfl (a_cons (e_op (e_op (e_var rfl (e_var rfl (r_ixP put_same rA (EW.frz (e_lstP (a_cons (e_var rfl (a_nil ⟨by simp, fun y ny => ⟨y, [.int ((j : Nat) : Int)], rfl, put_same, ?_⟩⟩)))))))))))))))
              rw [del_put ny]
              refine r_catL lR (a_nil ⟨_, .cons (.cons .nil), rfl, u, rwD G, put_same, ?_⟩)
              rw [del_put nu', eR]
              have := h (pfD G)
              unfold apD at this
              rw [hap] at this
              exact this
            · have sj : same W V F[i].1 j = true := by simpa using z
              obtain ⟨j1, j2⟩ := same_len sj
              refine s_seq (s_asg (e_tupD (a_cons (e_op (e_op (e_var rfl (e_var rfl (r_ixT (at_node (List.getElem?_eq_getElem j1)) (e_int (r_ixT rfl (a_cons (e_op (e_op (e_var rfl (e_var rfl (r_ixT (at_node (List.getElem?_eq_getElem j2)) (e_int (r_ixT rfl (a_nil ⟨_, .cons (.cons .nil), rfl, ?_⟩)))))))))))))))))))
              obtain ⟨t, ht⟩ : ∃ t : Pr, t = ((look W F[i].1.1)[j].2, (look V F[i].1.2)[j].2) := ⟨_, rfl⟩
              have et : (tgts W V F[i].1)[j]? = some t := by
                unfold tgts
                have ez : (List.zip (look W F[i].1.1) (look V F[i].1.2))[j]? = some ((look W F[i].1.1)[j], (look V F[i].1.2)[j]) := List.getElem?_zip_eq_some.mpr ⟨List.getElem?_eq_getElem j1, List.getElem?_eq_getElem j2⟩
                rw [List.getElem?_map, ez, ht]
                rfl
              have hjt := (List.getElem?_eq_some_iff.mp et).1
              have hdr : (tgts W V F[i].1).drop j = t :: (tgts W V F[i].1).drop (j + 1) := by
                rw [List.drop_eq_getElem_cons hjt, (List.getElem?_eq_some_iff.mp et).2]
              rw [hdr, addP_cons] at ha
              have htb := tb t (List.mem_of_getElem? et)
              have hs' : ∀ k, k < j + 1 → same W V F[i].1 k = true := fun k hk => by
                by_cases e : k = j
                · rw [e]
                  exact sj
                · exact hs k (by omega)
              have ep : PyData.tuple [.int (((look W F[i].1.1)[j].2 : Nat) : Int), .int (((look V F[i].1.2)[j].2 : Nat) : Int)] = prD t := by
                rw [ht]
                rfl
              show SW K _ [some (.dat (webD W)), some (.dat (webD V)), some (.ptr p), some (.ptr u), some (.dat (.int ((i : Nat) : Int))), some (.dat (ndD (look W F[i].1.1))), some (.dat (ndD (look V F[i].1.2))), some (.dat (.int ((j : Nat) : Int))), some (.dat (.tuple [.int (((look W F[i].1.1)[j].2 : Nat) : Int), .int (((look V F[i].1.2)[j].2 : Nat) : Int)]))] _ _
              rw [ep]
              refine s_if (t_test (e_op (e_var rfl (e_var rfl (r_ninDP (rp _ _) (pr_shaped t) (pf_shaped G) ⟨_, rfl, fun z => ?_, fun z => s_next ?_⟩)))))
              · rw [pf_any] at z
                have hn : t ∉ G.map (·.1) := by simpa using z
                rw [if_neg hn] at ha
                have gl2 := gG.len
                refine s_seq (s_drop (e_app (e_var rfl ⟨p, rfl, ⟨_, rp _ _⟩, a_cons (e_var rfl (a_nil ⟨_, _, rfl, rp _ _, ?_, ?_⟩))⟩)))
                · have : ((pfD G).map Av.dat).length = G.length := pF_len
                  omega
                rw [wp]
                refine s_drop (e_app (e_var rfl ⟨u, rfl, ⟨_, put_same⟩, a_cons (e_op (e_op (e_var rfl (e_var rfl (r_ixP put_same rA (EW.frz (e_lstP (a_cons (e_var rfl (a_nil ⟨by simp, fun y ny => ⟨y, [.int ((j : Nat) : Int)], rfl, put_same, ?_⟩⟩))))))))))⟩))
                rw [del_put ny]
                refine r_catL lR (a_nil ⟨_, _, rfl, put_same, ?_, ?_⟩)
                · unfold rwD
                  rw [List.length_map, List.length_map]
                  omega
                rw [put_put, eR]
                have sN := Short.addP (ts := [t]) (j := j) (row := F[i].2) sG (by have := sF F[i] (List.getElem_mem hlt); rw [eG, List.length_append]; omega)
                rw [addP_cons, if_neg hn] at sN
                refine ⟨rfl, G ++ [(t, F[i].2 ++ [j])], _, _, rfl, gG.add htb.1 htb.2 hn, sN, ⟨X ++ [(t, F[i].2 ++ [j])], by rw [eG, List.append_assoc]⟩, hs', ?_, ha⟩
                have q1 : (pfD G).map Av.dat ++ [.dat (prD t)] = (pfD (G ++ [(t, F[i].2 ++ [j])])).map Av.dat := pF_app
                have q2 : (rwD G).map Av.dat ++ [.dat (.list (iR (F[i].2 ++ [j])))] = (rwD (G ++ [(t, F[i].2 ++ [j])])).map Av.dat := by
                  unfold rwD
                  simp
                rw [q1, q2]
              · rw [pf_any] at z
                have hn : t ∈ G.map (·.1) := by simpa using z
                rw [if_pos hn] at ha
                exact ⟨rfl, G, _, _, rfl, gG, sG, ⟨X, eG⟩, hs', rfl, ha⟩
          · rintro Γ' Ω' ⟨-, G, x7, x8, rfl, gG, sG, ⟨X, eG⟩, hs, rfl, ha⟩
            have hL : (rngA 0 ((most W V F[i].1 : Nat) : Int).toNat).length = most W V F[i].1 := by
              unfold rngA
              simp
            rw [hL] at hs ha
            have hd : (tgts W V F[i].1).drop (most W V F[i].1) = [] := by
              rw [List.drop_eq_nil_of_le]
              rw [tgts_len]
              unfold most
              omega
            rw [hd] at ha
            have ha' : G = addP F[i].2 0 F (tgts W V F[i].1) := ha
            exact ⟨_, _, rfl, by rw [ha'], unlike_none hs⟩
        · rintro Γ' Ω' ⟨x7, x8, rfl, rfl, hn⟩
          obtain ⟨g1, X, e1⟩ := g.addP (row := F[i].2) (j := 0) tb
          have s1 := Short.addP (ts := tgts W V F[i].1) (j := 0) sF (sF F[i] (List.getElem_mem hlt))
          refine s_asg (e_op (e_var rfl (e_int (r_I0i ⟨W.length * V.length + 1 - (i + 1), by omega, addP F[i].2 0 F (tgts W V F[i].1), i + 1, _, _, _, _, rfl, rfl, g1, s1, by rw [e1, List.length_append]; omega, fun k y hk hy => ?_, rfl, ?_⟩))))
          · rw [e1, List.getElem?_append_left (by omega)] at hy
            by_cases e : k = i
            · subst e
              rw [ex] at hy
              injection hy with hy
              rw [← hy]
              exact hn
            · exact hu k y (by omega) hy
          · rw [show W.length * V.length + 1 - (i + 1) = W.length * V.length - i by omega]
            exact hb
      · have he : i = F.length := by
          have := of_decide_eq_false z
          rw [pl] at this
          omega
        subst he
        rw [bfs_end] at hb
        refine ⟨F, _, _, _, _, _, rfl, rfl, apart_none fun k y hy => ?_⟩
        rw [← hb] at hy
        exact hu k y (List.getElem?_eq_some_iff.mp hy).1 hy
  rintro Γ' Ω' ⟨F, y4, y5, y6, y7, y8, rfl, rfl, hn⟩
  refine s_frz (ds := pfD F) 2 rfl (rp _ _) ?_
  rw [cm, del_put (by rw [put_ne hpu]; exact np')]
  refine s_ret (EW.forget (e_tupD (a_cons (e_var rfl (a_cons (e_non (a_nil ⟨_, .cons (.cons .nil), rfl, u, rwD F, put_same, ?_⟩)))))))
  rw [del_put nu']
  have := h (pfD F)
  unfold apD at this
  rw [hn] at this
  exact this
end
end K05

set_option Elab.async false
set_option linter.all false
set_option maxRecDepth 100000
set_option maxHeartbeats 1000000
namespace K05
open PySem PySem.Spec PyProof.Rows L2 Dat Dkd LamX NdefX Clo
local macro_rules | `(tactic| trivial) => `(tactic| (first
  | (with_reducible refine s_seq ?_)
  | (with_reducible refine s_asg ?_)
  | (with_reducible refine s_ret ?_)
  | (with_reducible refine s_drop ?_)
  | (with_reducible refine s_next ?_)
  | (with_reducible refine s_retN ?_)
  | (with_reducible refine s_brk ?_)
  | (with_reducible refine s_cont ?_)
  | (with_reducible refine s_if ?_)
  | (with_reducible refine e_int ?_)
  | (with_reducible refine e_str ?_)
  | (with_reducible refine e_bl ?_)
  | (with_reducible refine e_non ?_)
  | (with_reducible refine e_ty ?_)
  | (with_reducible refine e_tupD ?_)
  | (with_reducible refine e_lstD ?_)
  | (with_reducible refine e_op ?_)
  | (with_reducible refine e_un ?_)
  | (with_reducible refine e_then ?_)
  | (with_reducible refine e_cb ?_)
  | (with_reducible refine e_call ?_)
  | (with_reducible refine e_if ?_)
  | (with_reducible refine e_chain ?_)
  | (with_reducible refine e_andV ?_)
  | (with_reducible refine e_orV ?_)
  | (with_reducible refine e_notV ?_)
  | (with_reducible refine a_cons ?_)
  | (with_reducible refine a_nil ?_)
  | (with_reducible refine t_test ?_)
  | (with_reducible refine t_B ?_)
  | (with_reducible refine t_not ?_)
  | (with_reducible refine t_and ?_)
  | (with_reducible refine t_or ?_)
  | (with_reducible refine r_I0i ?_)
  | (with_reducible refine r_I0b ?_)
  | (with_reducible refine r_neg ?_)
  | (with_reducible refine r_isN ?_)
  | (with_reducible refine r_notN ?_)
  | (with_reducible refine c_lenT ?_)
  | (with_reducible refine c_lenL ?_)
  | (with_reducible refine c_intI ?_)
  | (with_reducible refine c_intB ?_)
  | (with_reducible refine c_max2 ?_)
  | (with_reducible refine c_min2 ?_)
  | (with_reducible refine c_abs ?_)
  | (with_reducible refine r_tupL ?_)
  | (with_reducible refine r_tupT ?_)
  | (with_reducible refine c_allM ?_)
  | ((with_reducible apply e_var); (exact rfl))
  | ((with_reducible refine r_eq ?_ ?_); (exact rfl))
  | ((with_reducible refine r_ne ?_ ?_); (exact rfl))
  | (with_reducible refine c_isi kit_int ?_)
  | (with_reducible refine c_isi kit_bool ?_)
  | (with_reducible refine c_isi kit_tuple ?_)
  | (with_reducible refine c_isi kit_list ?_)
  | (with_reducible refine c_isi kit_str ?_)
  | ((with_reducible apply r_ixT); (exact rfl))
  | ((with_reducible apply dats_pack); (iterate 40 (first | exact Dats.nil | apply Dats.cons | skip)); (exact rfl))
  | (with_reducible refine s_asgG ?_) | (with_reducible refine g_name ?_) | ((with_reducible refine g_tup ?_ ?_); (exact rfl)) | (refine gs_nil ?_) | (refine gs_cons ?_) | (with_reducible refine ⟨rfl, ?_⟩)
  | (refine ⟨_, rfl, ?_⟩) | (refine ⟨_, _, rfl, ?_⟩) | (refine ⟨_, _, _, rfl, ?_⟩) | (with_reducible refine ⟨fun _ => ?_, fun _ => ?_⟩) | fail))
/-! ### the node of a pair -/
def lessD (n1 n2 : Nd) (pl : Pr → Nat) : PyData := .tuple ((List.zip n1 n2).map fun m => .tuple [.int (m.1.1 - m.2.1), .int ((pl (m.1.2, m.2.2) : Nat) : Int)])
section
variable {P : Program} {w : World} {K : PySem.W.Frag} [Tb K] {mg : Str → Option Value} {base : Heap}
abbrev spLess (w : World) : ASp := fun as Ω P => ∃ (n1 n2 : Nd) (p : Addr) (ep : Nat) (l : List Fe) (pl : Pr → Nat), as = [.dat (ndD n1), .dat (ndD n2), FzD w p ep l] ∧ n1.length ≤ 12 ∧ KeysL l ∧ (∀ m ∈ List.zip n1 n2, lookL l (prD (m.1.2, m.2.2)) = some (.int ((pl (m.1.2, m.2.2) : Nat) : Int))) ∧ P (.dat (lessD n1 n2 pl)) Ω
theorem ok_node_less (T : Top P K mg) : FnOk P w K mg base CX0 1 T.f_node_less T.d_node_less ["moves", "others", "places"] (spA K (spLess w)) := by
  refine fnA_ok T.D_node_less.F sc_node_less (fun as Ω P ⟨n1, n2, p, ep, l, pl, e, _⟩ => by subst e; rfl) (fun cdv A outer s H E hr => ?_)
  refine ⟨_, (pss_one (ps_ret (Dat.pe_tupleK (K := K) rfl rfl T.b_tuple (pe_lc (own := [("move", 3), ("beside", 4)]) (g := (gTup K 2 (gCons (gName 3) (gCons (gName 4) gNil)))) (tt := tYes) rfl sc_node_less.nd (Dat.zipQ (K := K) rfl rfl T.b_zip (pa_cons (pv 0) (pa_cons (pv 1) pa_nil))) (blkOk_by (N := N_node_less) (sc := defScope s_node_less) (by decide +kernel)) (fun _ _ _ _ _ => (Dat.pgT (K := K) (n := 2) rfl rfl (pgs_cons (pg_name (i := 3) sc_node_less.nd rfl (Or.inl rfl)) (pgs_cons (pg_name (i := 4) sc_node_less.nd rfl (Or.inl rfl)) pgs_nil)))) (fun _ _ _ _ _ => pts_nil) (fun _ _ _ _ _ => (pe_tup (pa_cons (pe_op op_sub (pe_ix (Dat.ixT (K := K) rfl) (pv 3) pe_int (fun _ _ => rfl)) (pe_ix (Dat.ixT (K := K) rfl) (pv 4) pe_int (fun _ _ => rfl))) (pa_cons (Dat.pe_dgetQ (K := K) (w := w) rfl rfl (by exact hu9 hr) (pv 2) (pe_tup (pa_cons (pe_ix (Dat.ixT (K := K) rfl) (pv 3) pe_int (fun _ _ => rfl)) (pa_cons (pe_ix (Dat.ixT (K := K) rfl) (pv 4) pe_int (fun _ _ => rfl)) pa_nil))) (fun _ _ => rfl)) pa_nil)))))))), ?_⟩
  rintro as Ω P ⟨n1, n2, p, ep, l, pl, rfl, hl, hk, hp, h⟩
  refine s_ret (e_then (e_lcM (List.zip n1 n2) (fun m => .dat (.tuple [mvD m.1, mvD m.2])) (fun m => .tuple [.int (m.1.1 - m.2.1), .int ((pl (m.1.2, m.2.2) : Nat) : Int)]) (gn_tup (gns_cons (gn_name (by decide)) (gns_cons (gn_name (by decide)) gns_nil))) (by rw [List.length_zip]; omega) ?_))
  refine i_zipM (a_cons (e_var rfl (a_cons (e_var rfl (a_nil ⟨_, _, rfl, ?_, fun m Ω' hm _ => ?_, ?_⟩)))))
  · unfold zipM
    rw [List.zip_map, List.map_map]
    rfl
  · refine g_tup rfl (gs_cons (g_name ⟨rfl, gs_cons (g_name ⟨rfl, gs_nil ⟨rfl, ?_⟩⟩)⟩))
    refine e_tupD (a_cons (e_op (e_op (e_var rfl (e_int (r_ixT rfl (e_op (e_var rfl (e_int (r_ixT rfl (r_I0i (a_cons (e_dgetF (e_var rfl ⟨p, ep, l, rfl, hk, ?_⟩))))))))))))))
    exact e_tupD (a_cons (e_op (e_var rfl (e_int (r_ixT rfl (a_cons (e_op (e_var rfl (e_int (r_ixT rfl (a_nil ⟨_, .cons (.cons .nil), rfl, _, _, rfl, prK (m.1.2, m.2.2), hp m hm, a_nil ⟨_, .cons (.cons .nil), rfl, rfl, rfl⟩⟩)))))))))))
  · exact r_tupL h
end
end K05

set_option Elab.async false
set_option linter.all false
set_option maxRecDepth 100000
set_option maxHeartbeats 1000000
namespace K05
open PySem PySem.Spec PyProof.Rows L2 Dat Dkd LamX NdefX Clo
local macro_rules | `(tactic| trivial) => `(tactic| (first
  | (with_reducible refine s_seq ?_)
  | (with_reducible refine s_asg ?_)
  | (with_reducible refine s_ret ?_)
  | (with_reducible refine s_drop ?_)
  | (with_reducible refine s_next ?_)
  | (with_reducible refine s_retN ?_)
  | (with_reducible refine s_brk ?_)
  | (with_reducible refine s_cont ?_)
  | (with_reducible refine s_if ?_)
  | (with_reducible refine e_int ?_)
  | (with_reducible refine e_str ?_)
  | (with_reducible refine e_bl ?_)
  | (with_reducible refine e_non ?_)
  | (with_reducible refine e_ty ?_)
  | (with_reducible refine e_tupD ?_)
  | (with_reducible refine e_lstD ?_)
  | (with_reducible refine e_op ?_)
  | (with_reducible refine e_un ?_)
  | (with_reducible refine e_then ?_)
  | (with_reducible refine e_cb ?_)
  | (with_reducible refine e_call ?_)
  | (with_reducible refine e_if ?_)
  | (with_reducible refine e_chain ?_)
  | (with_reducible refine e_andV ?_)
  | (with_reducible refine e_orV ?_)
  | (with_reducible refine e_notV ?_)
  | (with_reducible refine a_cons ?_)
  | (with_reducible refine a_nil ?_)
  | (with_reducible refine t_test ?_)
  | (with_reducible refine t_B ?_)
  | (with_reducible refine t_not ?_)
  | (with_reducible refine t_and ?_)
  | (with_reducible refine t_or ?_)
  | (with_reducible refine r_I0i ?_)
  | (with_reducible refine r_I0b ?_)
  | (with_reducible refine r_neg ?_)
  | (with_reducible refine r_isN ?_)
  | (with_reducible refine r_notN ?_)
  | (with_reducible refine c_lenT ?_)
  | (with_reducible refine c_lenL ?_)
  | (with_reducible refine c_intI ?_)
  | (with_reducible refine c_intB ?_)
  | (with_reducible refine c_max2 ?_)
  | (with_reducible refine c_min2 ?_)
  | (with_reducible refine c_abs ?_)
  | (with_reducible refine r_tupL ?_)
  | (with_reducible refine r_tupT ?_)
  | (with_reducible refine c_allM ?_)
  | ((with_reducible apply e_var); (exact rfl))
  | ((with_reducible refine r_eq ?_ ?_); (exact rfl))
  | ((with_reducible refine r_ne ?_ ?_); (exact rfl))
  | (with_reducible refine c_isi kit_int ?_)
  | (with_reducible refine c_isi kit_bool ?_)
  | (with_reducible refine c_isi kit_tuple ?_)
  | (with_reducible refine c_isi kit_list ?_)
  | (with_reducible refine c_isi kit_str ?_)
  | ((with_reducible apply r_ixT); (exact rfl))
  | ((with_reducible apply dats_pack); (iterate 40 (first | exact Dats.nil | apply Dats.cons | skip)); (exact rfl))
  | (with_reducible refine s_asgG ?_) | (with_reducible refine g_name ?_) | ((with_reducible refine g_tup ?_ ?_); (exact rfl)) | (refine gs_nil ?_) | (refine gs_cons ?_) | (with_reducible refine ⟨rfl, ?_⟩)
  | (refine ⟨_, rfl, ?_⟩) | (refine ⟨_, _, rfl, ?_⟩) | (refine ⟨_, _, _, rfl, ?_⟩) | (with_reducible refine ⟨fun _ => ?_, fun _ => ?_⟩) | fail))
/-! ### walk_apart, of what index_apart answers -/
def optI : Option Nat → PyData
  | some k => .int ((k : Nat) : Int)
  | none => .none
theorem Stk.keys {G : Fo} : ∀ {F : Fo} {l : List Fe}, Stk G F (dataL l) → l.map (·.1) = pfD F
  | [], [], _ => rfl
  | [], e :: l, c => c.elim
  | y :: F, [], c => c.elim
  | y :: F, e :: l, ⟨a, b, c⟩ => by
    have ih := Stk.keys c
    unfold pfD at ih ⊢
    rw [List.map_cons, List.map_cons, ih]
    have a' : e.1 = prD y.1 := a
    rw [a']
section
variable {P : Program} {w : World} {K : PySem.W.Frag} [Tb K] {mg : Str → Option Value} {base : Heap}
abbrev spIndex : ASp := fun as Ω P => ∃ (W V : Web) (x : Pr), as = [.dat (ndD (look W x.1)), .dat (ndD (look V x.2))] ∧ (look W x.1).length ≤ 12 ∧ (look V x.2).length ≤ 12 ∧ P (.dat (optI (unlike W V x))) Ω
abbrev spApart : ASp := fun as Ω P => ∃ W V : Web, as = [.dat (webD W), .dat (webD V)] ∧ WOk W ∧ WOk V ∧ (apart W V = none → P (.dat .none) Ω) ∧ ∀ r, apart W V = some r → ∀ q, Ω q = none → P (.ptr q) (put Ω q ((iR r).map .dat))
theorem ok_walk_apart (T : Top P K mg) {Pw : Addr} (TB : TabB base mg T.cw Pw) (hT : Tb.T (K := K) = [(Pw, pbQ)])
    (G_index_apart : FnOk P w K mg base CX0 1 T.f_index_apart T.d_index_apart ["moves", "others"] (spA K spIndex)) : FnOk P w K mg base CX0 7 T.f_walk_apart T.d_walk_apart ["web", "other"] (spA K spApart) := by
  have G_check_web : FnOk P w K mg base CX0 6 T.f_check_web T.d_check_web ["thing"] (spA K spChkW) := ok_check_web T
  have G_pair_steps : FnOk P w K mg base CX0 3 T.f_pair_steps T.d_pair_steps ["web", "other"] (spA K (spSteps w)) := ok_pair_steps T TB hT
  have G_walk_back : FnOk P w K mg base CX0 1 T.f_walk_back T.d_walk_back ["steps", "place"] (spA K (spBack w)) := ok_walk_back T
  refine fnA_ok T.D_walk_apart.F sc_walk_apart (fun as Ω P ⟨W, V, e, _⟩ => by subst e; rfl) (fun cdv A outer s H E hr => ?_)
  obtain ⟨ds0, hvd, hbd⟩ := T.D_pair_steps.b
  refine ⟨_, (pss_cons (ps_expr (pe_call G_check_web (hr.mono (by omega)) rfl T.D_check_web.g T.D_check_web.F.kp T.D_check_web.b .nil pass0 (pa_cons (pv 0) pa_nil)))
    (pss_cons (ps_expr (pe_call G_check_web (hr.mono (by omega)) rfl T.D_check_web.g T.D_check_web.F.kp T.D_check_web.b .nil pass0 (pa_cons (pv 1) pa_nil)))
    (pss_cons (ps_set (i := 2) sc_walk_apart.nd rfl (.inl rfl) (pe_call (dvs := []) G_pair_steps (hr.mono (by omega)) rfl T.D_pair_steps.g T.D_pair_steps.kp hbd hvd pass0 (pa_cons (pv 0) (pa_cons (pv 1) pa_nil))))
    (pss_cons (ps_for PassesOwn.never rfl (pi_keysE (pv 2)) (pg_name (i := 3) sc_walk_apart.nd rfl (.inl rfl))
      (pss_cons (ps_set (i := 4) sc_walk_apart.nd rfl (.inl rfl) (pe_call G_index_apart (hr.mono (by omega)) rfl T.D_index_apart.g T.D_index_apart.F.kp T.D_index_apart.b .nil pass0 (pa_cons (pe_ix (Dat.ixT (K := K) rfl) (pv 0) (pe_ix (Dat.ixT (K := K) rfl) (pv 3) pe_int (fun _ _ => rfl)) (fun _ _ => rfl)) (pa_cons (pe_ix (Dat.ixT (K := K) rfl) (pv 1) (pe_ix (Dat.ixT (K := K) rfl) (pv 3) pe_int (fun _ _ => rfl)) (fun _ _ => rfl)) pa_nil))))
      (pss_one (ps_if (pt_cmpR Dat.op_notNo (pv 4) pe_non (nomark _))
        (pss_one (ps_ret (pe_op op_cat (pe_call G_walk_back (hr.mono (by omega)) rfl T.D_walk_back.g T.D_walk_back.F.kp T.D_walk_back.b .nil pass0 (pa_cons (pv 2) (pa_cons (pv 3) pa_nil))) (pe_lst (pa_cons (pv 4) pa_nil)))))
        pss_nil))))
    (pss_one (ps_ret pe_non)))))), ?_⟩
  rintro as Ω P ⟨W, V, rfl, o, o2, h0, h1⟩
  have NB : W.length * V.length ≤ 14400 := mul_le o.l2 o2.l2
  refine s_seq (s_drop (e_call (a_cons (e_var rfl (a_nil ⟨W, rfl, o, ?_⟩)))))
  refine s_seq (s_drop (e_call (a_cons (e_var rfl (a_nil ⟨V, rfl, o2, ?_⟩)))))
  refine s_seq (s_asg (EW.dfrz (w := w) (e_call (a_cons (e_var rfl (a_cons (e_var rfl (a_nil ⟨W, V, rfl, o, o2, fun d kds od hk => ⟨d, kds, rfl, puto_same, fun ep l ed hkl => ?_⟩⟩))))))))
  rw [delo_puto od.2]
  subst ed
  have gd := met_gd o o2
  have gl := gd.len
  refine s_seqM (fun Γ' Ω' => ∃ (y3 y4 : Option Av), Γ' = [some (.dat (webD W)), some (.dat (webD V)), some (FzD w d ep l), y3, y4] ∧ Ω' = Ω ∧ apart W V = none) ?_ ?_
  · refine s_for (fun as j Γ' Ω' => as = (pfD (met W V)).map .dat ∧ ∃ (y3 y4 : Option Av), Γ' = [some (.dat (webD W)), some (.dat (webD V)), some (FzD w d ep l), y3, y4] ∧ Ω' = Ω ∧ ∀ (k : Nat) (y : Pr × List Nat), k < j → (met W V)[k]? = some y → unlike W V y.1 = none) ?_
    refine i_keysF (e_var rfl ⟨d, ep, l, rfl, hkl, ⟨by rw [hk.keys], _, _, rfl, rfl, fun k y hk _ => absurd hk (Nat.not_lt_zero _)⟩, ?_, ?_⟩)
    · rintro j it Γ' Ω' hit ⟨-, y3, y4, rfl, rfl, hu⟩
      rw [hk.keys] at hit
      unfold pfD at hit
      rw [List.map_map, List.getElem?_map] at hit
      obtain ⟨xr, ex, rfl⟩ := Option.map_eq_some_iff.mp hit
      obtain ⟨x, r⟩ := xr
      have hm := List.mem_of_getElem? ex
      have hx := gd.b _ hm
      refine g_name (s_seq (s_asg (e_call (a_cons (e_op (e_var rfl (e_op (e_var rfl (e_int (r_ixT rfl (r_ixT (web_at hx.1) (a_cons (e_op (e_var rfl (e_op (e_var rfl (e_int (r_ixT rfl (r_ixT (web_at hx.2) (a_nil ⟨W, V, x, rfl, (o.nd _ (look_mem hx.1)).2, (o2.nd _ (look_mem hx.2)).2, ?_⟩))))))))))))))))))))
      cases eu : unlike W V x with
      | none =>
        refine s_if (t_test (e_op (e_var rfl (e_non (r_notN ⟨_, rfl, fun z => ?_, fun z => s_next ?_⟩)))))
        · cases z
        · refine ⟨by rw [hk.keys], _, _, rfl, rfl, fun k y hkj hy => ?_⟩
          by_cases e : k = j
          · subst e
            rw [ex] at hy
            injection hy with hy
            rw [← hy]
            exact eu
          · exact hu k y (by omega) hy
      | some i =>
        have hap : apart W V = some (r ++ [i]) := apart_at ex ⟨[], (List.append_nil _).symm⟩ hu eu
        have lr : r.length < (met W V).length := met_short _ hm
        refine s_if (t_test (e_op (e_var rfl (e_non (r_notN ⟨_, rfl, fun z => ?_, fun z => ?_⟩)))))
        · refine s_ret (e_op (EW.frz (e_call (a_cons (e_var rfl (a_cons (e_var rfl (a_nil ⟨met W V, d, ep, l, x, r, rfl, hkl, gd.nd, hk, hm, by omega, fun q nq => ⟨q, iR r, rfl, put_same, ?_⟩⟩))))))))
          rw [del_put nq.1]
          refine EW.frz (e_lstP (a_cons (e_var rfl (a_nil ⟨by simp, fun y ny => ⟨y, [.int ((i : Nat) : Int)], rfl, put_same, ?_⟩⟩))))
          rw [del_put ny]
          refine r_catLLP ?_ fun q nq => ?_
          · unfold iR
            rw [List.length_map, List.length_singleton]
            omega
          · have e : iR r ++ [PyData.int ((i : Nat) : Int)] = iR (r ++ [i]) := by
              unfold iR
              rw [List.map_append]
              rfl
            rw [e]
            exact h1 _ hap q nq
        · cases z
    · rintro Γ' Ω' ⟨-, y3, y4, rfl, rfl, hu⟩
      refine ⟨_, _, rfl, rfl, apart_none fun k y hy => hu k y ?_ hy⟩
      rw [hk.keys]
      unfold pfD
      rw [List.length_map, List.length_map]
      exact (List.getElem?_eq_some_iff.mp hy).1
  rintro Γ' Ω' ⟨y3, y4, rfl, rfl, hn⟩
  exact s_ret (e_non (h0 hn))
end
end K05

set_option Elab.async false
set_option linter.all false
set_option maxRecDepth 100000
set_option maxHeartbeats 1000000
namespace K05
open PySem PySem.Spec PyProof.Rows L2 Dat Dkd LamX NdefX Clo
local macro_rules | `(tactic| trivial) => `(tactic| (first
  | (with_reducible refine s_seq ?_)
  | (with_reducible refine s_asg ?_)
  | (with_reducible refine s_ret ?_)
  | (with_reducible refine s_drop ?_)
  | (with_reducible refine s_next ?_)
  | (with_reducible refine s_retN ?_)
  | (with_reducible refine s_brk ?_)
  | (with_reducible refine s_cont ?_)
  | (with_reducible refine s_if ?_)
  | (with_reducible refine e_int ?_)
  | (with_reducible refine e_str ?_)
  | (with_reducible refine e_bl ?_)
  | (with_reducible refine e_non ?_)
  | (with_reducible refine e_ty ?_)
  | (with_reducible refine e_tupD ?_)
  | (with_reducible refine e_lstD ?_)
  | (with_reducible refine e_op ?_)
  | (with_reducible refine e_un ?_)
  | (with_reducible refine e_then ?_)
  | (with_reducible refine e_cb ?_)
  | (with_reducible refine e_call ?_)
  | (with_reducible refine e_if ?_)
  | (with_reducible refine e_chain ?_)
  | (with_reducible refine e_andV ?_)
  | (with_reducible refine e_orV ?_)
  | (with_reducible refine e_notV ?_)
  | (with_reducible refine a_cons ?_)
  | (with_reducible refine a_nil ?_)
  | (with_reducible refine t_test ?_)
  | (with_reducible refine t_B ?_)
  | (with_reducible refine t_not ?_)
  | (with_reducible refine t_and ?_)
  | (with_reducible refine t_or ?_)
  | (with_reducible refine r_I0i ?_)
  | (with_reducible refine r_I0b ?_)
  | (with_reducible refine r_neg ?_)
  | (with_reducible refine r_isN ?_)
  | (with_reducible refine r_notN ?_)
  | (with_reducible refine c_lenT ?_)
  | (with_reducible refine c_lenL ?_)
  | (with_reducible refine c_intI ?_)
  | (with_reducible refine c_intB ?_)
  | (with_reducible refine c_max2 ?_)
  | (with_reducible refine c_min2 ?_)
  | (with_reducible refine c_abs ?_)
  | (with_reducible refine r_tupL ?_)
  | (with_reducible refine r_tupT ?_)
  | (with_reducible refine c_allM ?_)
  | ((with_reducible apply e_var); (exact rfl))
  | ((with_reducible refine r_eq ?_ ?_); (exact rfl))
  | ((with_reducible refine r_ne ?_ ?_); (exact rfl))
  | (with_reducible refine c_isi kit_int ?_)
  | (with_reducible refine c_isi kit_bool ?_)
  | (with_reducible refine c_isi kit_tuple ?_)
  | (with_reducible refine c_isi kit_list ?_)
  | (with_reducible refine c_isi kit_str ?_)
  | ((with_reducible apply r_ixT); (exact rfl))
  | ((with_reducible apply dats_pack); (iterate 40 (first | exact Dats.nil | apply Dats.cons | skip)); (exact rfl))
  | (with_reducible refine s_asgG ?_) | (with_reducible refine g_name ?_) | ((with_reducible refine g_tup ?_ ?_); (exact rfl)) | (refine gs_nil ?_) | (refine gs_cons ?_) | (with_reducible refine ⟨rfl, ?_⟩)
  | (refine ⟨_, rfl, ?_⟩) | (refine ⟨_, _, rfl, ?_⟩) | (refine ⟨_, _, _, rfl, ?_⟩) | (with_reducible refine ⟨fun _ => ?_, fun _ => ?_⟩) | fail))
/-! ### index_apart -/
section
variable {P : Program} {w : World} {K : PySem.W.Frag} [Tb K] {mg : Str → Option Value} {base : Heap}
theorem ok_index_apart (T : Top P K mg) : FnOk P w K mg base CX0 1 T.f_index_apart T.d_index_apart ["moves", "others"] (spA K spIndex) := by
  refine fnA_ok T.D_index_apart.F sc_index_apart (fun as Ω P ⟨W, V, x, e, _⟩ => by subst e; rfl) (fun cdv A outer s H E hr => ?_)
  refine ⟨_, (pss_cons (ps_for PassesOwn.never rfl (Dat.pi_enumQ (K := K) rfl rfl T.b_enumerate rfl T.b_zip (pa_cons (pv 0) (pa_cons (pv 1) pa_nil))) (Dat.pgT (K := K) (n := 2) rfl rfl (pgs_cons (pg_name (i := 2) sc_index_apart.nd rfl (.inl rfl)) (pgs_cons (Dat.pgT (K := K) (n := 2) rfl rfl (pgs_cons (pg_name (i := 3) sc_index_apart.nd rfl (.inl rfl)) (pgs_cons (pg_name (i := 4) sc_index_apart.nd rfl (.inl rfl)) pgs_nil))) pgs_nil)))
      (pss_one (ps_if (pt_cmpR op_ne (pe_ix (Dat.ixT (K := K) rfl) (pv 3) pe_int (fun _ _ => rfl)) (pe_ix (Dat.ixT (K := K) rfl) (pv 4) pe_int (fun _ _ => rfl)) (nomark _))
        (pss_one (ps_ret (pv 2)))
        pss_nil)))
    (pss_cons (ps_if (pt_cmpR op_ne (pe_callB (Dat.lenQ (K := K) rfl) rfl T.b_len bt_len (pa_cons (pv 0) pa_nil)) (pe_callB (Dat.lenQ (K := K) rfl) rfl T.b_len bt_len (pa_cons (pv 1) pa_nil)) (nomark _))
      (pss_one (ps_ret (pe_callB (Dat.cl_min2 rfl) rfl T.b_min bt_min (pa_cons (pe_callB (Dat.lenQ (K := K) rfl) rfl T.b_len bt_len (pa_cons (pv 0) pa_nil)) (pa_cons (pe_callB (Dat.lenQ (K := K) rfl) rfl T.b_len bt_len (pa_cons (pv 1) pa_nil)) pa_nil)))))
      pss_nil)
    (pss_one (ps_ret pe_non)))), ?_⟩
  rintro as Ω P ⟨W, V, x, rfl, l1, l2, h⟩
  refine s_seqM (fun Γ' Ω' => ∃ (y2 y3 y4 : Option Av), Γ' = [some (.dat (ndD (look W x.1))), some (.dat (ndD (look V x.2))), y2, y3, y4] ∧ Ω' = Ω ∧ ∀ k, k < min (look W x.1).length (look V x.2).length → same W V x k = true) ?_ ?_
  · refine s_for (fun as j Γ' Ω' => as = enumZ ((look W x.1).map mvD) ((look V x.2).map mvD) ∧ ∃ (y2 y3 y4 : Option Av), Γ' = [some (.dat (ndD (look W x.1))), some (.dat (ndD (look V x.2))), y2, y3, y4] ∧ Ω' = Ω ∧ ∀ k, k < j → same W V x k = true) ?_
    refine i_enumZ (a_cons (e_var rfl (a_cons (e_var rfl (a_nil ⟨_, _, rfl, ⟨rfl, _, _, _, rfl, rfl, fun k hk => absurd hk (Nat.not_lt_zero _)⟩, ?_, ?_⟩)))))
    · rintro j it Γ' Ω' hit ⟨-, y2, y3, y4, rfl, rfl, hu⟩
      obtain ⟨d1, d2, h1, h2, rfl⟩ := enumZ_at hit
      rw [List.getElem?_map] at h1 h2
      obtain ⟨m, em, rfl⟩ := Option.map_eq_some_iff.mp h1
      obtain ⟨m', em', rfl⟩ := Option.map_eq_some_iff.mp h2
      refine g_tup rfl (gs_cons (g_name ⟨rfl, gs_cons (g_tup rfl (gs_cons (g_name ⟨rfl, gs_cons (g_name ⟨rfl, gs_nil ⟨rfl, gs_nil ?_⟩⟩)⟩)))⟩))
      have hs : same W V x j = decide (m.1 = m'.1) := by
        unfold same
        rw [em, em']
      have hlt := (List.getElem?_eq_some_iff.mp em).1
      refine s_if (t_test (e_op (e_op (e_var rfl (e_int (r_ixT rfl (e_op (e_var rfl (e_int (r_ixT rfl (r_ne rfl ⟨_, rfl, fun z => ?_, fun z => s_next ?_⟩)))))))))))
      · refine s_ret (e_var rfl ?_)
        have hn : same W V x j = false := by
          rw [hs]
          refine decide_eq_false fun e => ?_
          rw [e] at z
          simp [eqD] at z
        have e : unlike W V x = some j := unlike_some (by unfold most; omega) hu hn
        rw [e] at h
        exact h
      · refine ⟨rfl, _, _, _, rfl, rfl, fun k hk => ?_⟩
        by_cases e : k = j
        · subst e
          rw [hs]
          refine decide_eq_true ?_
          simpa [eqD] using z
        · exact hu k (by omega)
    · rintro Γ' Ω' ⟨-, y2, y3, y4, rfl, rfl, hu⟩
      refine ⟨_, _, _, rfl, rfl, fun k hk => hu k ?_⟩
      rw [enumZ_len, List.length_map, List.length_map]
      exact hk
  rintro Γ' Ω' ⟨y2, y3, y4, rfl, rfl, hu⟩
  have hn : (look W x.1).length ≠ (look V x.2).length → unlike W V x = some (min (look W x.1).length (look V x.2).length) := fun ne =>
    unlike_some (by unfold most; omega) hu (by
      cases z : same W V x (min (look W x.1).length (look V x.2).length) with
      | false => rfl
      | true =>
        have := same_len z
        omega)
  have he : (look W x.1).length = (look V x.2).length → unlike W V x = none := fun e => unlike_none fun k hk => hu k (by unfold most at hk; omega)
  refine s_seq (s_if (t_test (e_op (e_cb (a_cons (e_var rfl (a_nil (c_lenT (e_cb (a_cons (e_var rfl (a_nil (c_lenT (r_ne rfl ⟨_, rfl, fun z => ?_, fun z => s_next ?_⟩))))))))))))))
  · have ne : (look W x.1).length ≠ (look V x.2).length := fun e => by
      simp [eqD, e] at z
    refine s_ret (e_cb (a_cons (e_cb (a_cons (e_var rfl (a_nil (c_lenT (a_cons (e_cb (a_cons (e_var rfl (a_nil (c_lenT (a_nil (c_min2 ?_)))))))))))))))
    rw [hn ne] at h
    refine cast (congrArg (fun b => P (Av.dat (.int b)) Ω') ?_) h
    simp only [List.length_map]
    split <;> omega
  · have e : (look W x.1).length = (look V x.2).length := by
      simp [eqD] at z
      exact Int.ofNat_inj.mp z
    rw [he e] at h
    exact s_ret (e_non h)
end
end K05

set_option Elab.async false
set_option linter.all false
set_option maxRecDepth 100000
set_option maxHeartbeats 1000000
namespace K05
open PySem PySem.Spec PyProof.Rows L2 Dat Dkd LamX NdefX Clo
local macro_rules | `(tactic| trivial) => `(tactic| (first
  | (with_reducible refine s_seq ?_)
  | (with_reducible refine s_asg ?_)
  | (with_reducible refine s_ret ?_)
  | (with_reducible refine s_drop ?_)
  | (with_reducible refine s_next ?_)
  | (with_reducible refine s_retN ?_)
  | (with_reducible refine s_brk ?_)
  | (with_reducible refine s_cont ?_)
  | (with_reducible refine s_if ?_)
  | (with_reducible refine e_int ?_)
  | (with_reducible refine e_str ?_)
  | (with_reducible refine e_bl ?_)
  | (with_reducible refine e_non ?_)
  | (with_reducible refine e_ty ?_)
  | (with_reducible refine e_tupD ?_)
  | (with_reducible refine e_lstD ?_)
  | (with_reducible refine e_op ?_)
  | (with_reducible refine e_un ?_)
  | (with_reducible refine e_then ?_)
  | (with_reducible refine e_cb ?_)
  | (with_reducible refine e_call ?_)
  | (with_reducible refine e_if ?_)
  | (with_reducible refine e_chain ?_)
  | (with_reducible refine e_andV ?_)
  | (with_reducible refine e_orV ?_)
  | (with_reducible refine e_notV ?_)
  | (with_reducible refine a_cons ?_)
  | (with_reducible refine a_nil ?_)
  | (with_reducible refine t_test ?_)
  | (with_reducible refine t_B ?_)
  | (with_reducible refine t_not ?_)
  | (with_reducible refine t_and ?_)
  | (with_reducible refine t_or ?_)
  | (with_reducible refine r_I0i ?_)
  | (with_reducible refine r_I0b ?_)
  | (with_reducible refine r_neg ?_)
  | (with_reducible refine r_isN ?_)
  | (with_reducible refine r_notN ?_)
  | (with_reducible refine c_lenT ?_)
  | (with_reducible refine c_lenL ?_)
  | (with_reducible refine c_intI ?_)
  | (with_reducible refine c_intB ?_)
  | (with_reducible refine c_max2 ?_)
  | (with_reducible refine c_min2 ?_)
  | (with_reducible refine c_abs ?_)
  | (with_reducible refine r_tupL ?_)
  | (with_reducible refine r_tupT ?_)
  | (with_reducible refine c_allM ?_)
  | ((with_reducible apply e_var); (exact rfl))
  | ((with_reducible refine r_eq ?_ ?_); (exact rfl))
  | ((with_reducible refine r_ne ?_ ?_); (exact rfl))
  | (with_reducible refine c_isi kit_int ?_)
  | (with_reducible refine c_isi kit_bool ?_)
  | (with_reducible refine c_isi kit_tuple ?_)
  | (with_reducible refine c_isi kit_list ?_)
  | (with_reducible refine c_isi kit_str ?_)
  | ((with_reducible apply r_ixT); (exact rfl))
  | ((with_reducible apply dats_pack); (iterate 40 (first | exact Dats.nil | apply Dats.cons | skip)); (exact rfl))
  | (with_reducible refine s_asgG ?_) | (with_reducible refine g_name ?_) | ((with_reducible refine g_tup ?_ ?_); (exact rfl)) | (refine gs_nil ?_) | (refine gs_cons ?_) | (with_reducible refine ⟨rfl, ?_⟩)
  | (refine ⟨_, rfl, ?_⟩) | (refine ⟨_, _, rfl, ?_⟩) | (refine ⟨_, _, _, rfl, ?_⟩) | (with_reducible refine ⟨fun _ => ?_, fun _ => ?_⟩) | fail))
/-! ### is_web of what is a web but for weights and the number of its nodes -/
def wIn (m : Mv) : Bool := decide (-1000000 ≤ m.1) && decide (m.1 ≤ 1000000)
def jud (D : Web) : Bool := decide (D.length ≤ 120) && D.all fun n => n.all wIn
structure Near (D : Web) : Prop where
  l1 : 1 ≤ D.length
  l2 : D.length ≤ 14400
  nd : ∀ n ∈ D, 1 ≤ n.length ∧ n.length ≤ 12
  tg : ∀ n ∈ D, ∀ m ∈ n, m.2 < D.length
section
variable {P : Program} {w : World} {K : PySem.W.Frag} [Tb K] {mg : Str → Option Value} {base : Heap}
abbrev spMoveJ : ASp := fun as Ω P => ∃ (m : Mv) (s : Nat), as = [.dat (mvD m), .dat (.int (s : Nat))] ∧ m.2 < s ∧ P (.dat (.bool (wIn m))) Ω
theorem ok_is_moveJ (T : Top P K mg) : FnOk P w K mg base CX0 3 T.f_is_move T.d_is_move ["thing", "size"] (spA K spMoveJ) := by
  have G_is_whole_in : FnOk P w K mg base CX0 2 T.f_is_whole_in T.d_is_whole_in ["thing", "low", "high"] (spA K spIn) := ok_is_whole_in T
  have G_is_pair : FnOk P w K mg base CX0 1 T.f_is_pair T.d_is_pair ["thing"] (spA K (spB pairD)) := ok_is_pair T
  refine fnA_ok T.D_is_move.F sc_is_move (fun as Ω P ⟨m, s, e, _⟩ => by subst e; rfl) (fun cdv A outer s H E hr => ?_)
  refine ⟨_, (pss_cons (ps_if (pt_not (pt_val (pe_call G_is_pair (hr.mono (by omega)) rfl T.D_is_pair.g T.D_is_pair.F.kp T.D_is_pair.b .nil pass0 (pa_cons (pv 0) pa_nil))))
      (pss_one (ps_ret pe_bl))
      pss_nil)
    (pss_one (ps_ret (pe_and (pe_call G_is_whole_in (hr.mono (by omega)) rfl T.D_is_whole_in.g T.D_is_whole_in.F.kp T.D_is_whole_in.b .nil pass0 (pa_cons (pe_ix (Dat.ixT (K := K) rfl) (pv 0) pe_int (fun _ _ => rfl)) (pa_cons (pe_un un_neg (pe_glob (v := .int 1000000) rfl T.c_MOST_WEIGHT ⟨_, rfl⟩)) (pa_cons (pe_glob (v := .int 1000000) rfl T.c_MOST_WEIGHT ⟨_, rfl⟩) pa_nil)))) (pe_one (pe_call G_is_whole_in (hr.mono (by omega)) rfl T.D_is_whole_in.g T.D_is_whole_in.F.kp T.D_is_whole_in.b .nil pass0 (pa_cons (pe_ix (Dat.ixT (K := K) rfl) (pv 0) pe_int (fun _ _ => rfl)) (pa_cons pe_int (pa_cons (pe_op op_sub (pv 1) pe_int) pa_nil))))))))), ?_⟩
  rintro as Ω P ⟨m, s, rfl, h3, h⟩
  refine s_seq (s_ifB (b := false) ?_ (fun z => by cases z) fun _ => s_next ?_)
  · exact t_notB (b1 := true) (t_ofB (e_call (a_cons (e_var rfl (a_nil ⟨_, rfl, rfl, rfl⟩)))))
  · refine s_ret (e_andV (e_call (a_cons (e_op (e_var rfl (e_int (r_ixT rfl (a_cons (e_un (e_int (r_neg (a_cons (e_int (a_nil ⟨_, _, _, rfl, wIn m, rfl, fun hw => ?_, fun hw => ?_⟩))))))))))))))
    · refine e_call (a_cons (e_op (e_var rfl (e_int (r_ixT rfl (a_cons (e_int (a_cons (e_op (e_var rfl (e_int (r_I0i (a_nil ⟨_, _, _, rfl, ?_⟩)))))))))))))
      rw [inD_yes (by omega) (by omega)]
      rw [hw] at h
      exact h
    · rw [hw] at h
      exact h
abbrev spNodeJ : ASp := fun as Ω P => ∃ (n : Nd) (s : Nat), as = [.dat (ndD n), .dat (.int (s : Nat))] ∧ (1 ≤ n.length ∧ n.length ≤ 12) ∧ (∀ m ∈ n, m.2 < s) ∧ P (.dat (.bool (n.all wIn))) Ω
theorem ok_is_nodeJ (T : Top P K mg) : FnOk P w K mg base CX0 4 T.f_is_node T.d_is_node ["thing", "size"] (spA K spNodeJ) := by
  have G_is_move : FnOk P w K mg base CX0 3 T.f_is_move T.d_is_move ["thing", "size"] (spA K spMoveJ) := ok_is_moveJ T
  refine fnA_ok T.D_is_node.F sc_is_node (fun as Ω P ⟨m, s, e, _⟩ => by subst e; rfl) (fun cdv A outer s H E hr => ?_)
  refine ⟨_, (pss_cons (ps_if (pt_not (PW.pt (pw_and (pt_val (pe_callB (Dat.isiQ (K := K) rfl) rfl T.b_isinstance bt_isinstance (pa_cons (pv 0) (pa_cons (pe_bltn (v := .ty "tuple") rfl T.b_tuple bt_tuple rfl) pa_nil)))) (pw_and1 (pt_chain op_le op_le pe_int (pe_callB (Dat.lenQ (K := K) rfl) rfl T.b_len bt_len (pa_cons (pv 0) pa_nil)) (pe_glob (v := .int 12) rfl T.c_MOST_MOVES ⟨_, rfl⟩))))))
      (pss_one (ps_ret pe_bl))
      pss_nil)
    (pss_one (ps_ret (pe_callB (Dat.allQ (K := K) rfl rfl) rfl T.b_all bt_all (pa_cons (pe_lc (own := [("move", 2)]) (g := (gName 2)) (tt := tYes) rfl sc_is_node.nd (Dat.piT (K := K) rfl (pv 0)) (blkOk_by (N := N_is_node) (sc := defScope s_is_node) (by decide +kernel)) (fun _ _ _ _ _ => (pg_name (i := 2) sc_is_node.nd rfl (Or.inl rfl))) (fun _ _ _ _ _ => pts_nil) (fun _ _ _ _ _ => (pe_call G_is_move (hr.mono (by omega)) rfl T.D_is_move.g T.D_is_move.F.kp T.D_is_move.b .nil pass0 (pa_cons (pv 2) (pa_cons (pv 1) pa_nil))))) pa_nil))))), ?_⟩
  rintro as Ω P ⟨n, s, rfl, ⟨l1, l2⟩, hm, h⟩
  refine s_seq (s_ifB (b := !(true && true)) (t_notB (t_andB (t_ofB ?_) fun _ => t_ofC ?_)) (fun z => by cases z) fun _ => s_next ?_)
  · repeat' trivial
  · refine e_chain (e_int (e_cb (a_cons (e_var rfl (a_nil (c_lenT (r_I0b ⟨true, ?_, fun _ => e_int (r_I0b ⟨?_, rfl⟩), nofun⟩)))))))
    · rw [List.length_map, decide_eq_true (by omega)]
    · rw [List.length_map, decide_eq_true (by omega)]
  · refine s_ret (e_cb (a_cons (e_lcM n (fun m => .dat (mvD m)) (fun m => .bool (wIn m)) (gn_name (by decide)) (by omega) ?_)))
    refine i_tup (e_var rfl ⟨_, rfl, by rw [List.map_map]; rfl, fun x Ω' hx _ => g_name ⟨rfl, ?_⟩, ?_⟩)
    · exact e_call (a_cons (e_var rfl (a_cons (e_var rfl (a_nil ⟨x, s, rfl, hm x hx, rfl, rfl⟩)))))
    · exact a_nil (c_allM h)
abbrev spWebJ : ASp := fun as Ω P => ∃ W : Web, as = [.dat (webD W)] ∧ Near W ∧ P (.dat (.bool (jud W))) Ω
theorem ok_is_webJ (T : Top P K mg) : FnOk P w K mg base CX0 5 T.f_is_web T.d_is_web ["thing"] (spA K spWebJ) := by
  have G_is_node : FnOk P w K mg base CX0 4 T.f_is_node T.d_is_node ["thing", "size"] (spA K spNodeJ) := ok_is_nodeJ T
  refine fnA_ok T.D_is_web.F sc_is_web (fun as Ω P ⟨W, e, _⟩ => by subst e; rfl) (fun cdv A outer s H E hr => ?_)
  refine ⟨_, (pss_cons (ps_if (pt_not (PW.pt (pw_and (pt_val (pe_callB (Dat.isiQ (K := K) rfl) rfl T.b_isinstance bt_isinstance (pa_cons (pv 0) (pa_cons (pe_bltn (v := .ty "tuple") rfl T.b_tuple bt_tuple rfl) pa_nil)))) (pw_and1 (pt_chain op_le op_le pe_int (pe_callB (Dat.lenQ (K := K) rfl) rfl T.b_len bt_len (pa_cons (pv 0) pa_nil)) (pe_glob (v := .int 120) rfl T.c_MOST_NODES ⟨_, rfl⟩))))))
      (pss_one (ps_ret pe_bl))
      pss_nil)
    (pss_one (ps_ret (pe_callB (Dat.allQ (K := K) rfl rfl) rfl T.b_all bt_all (pa_cons (pe_lc (own := [("node", 1)]) (g := (gName 1)) (tt := tYes) rfl sc_is_web.nd (Dat.piT (K := K) rfl (pv 0)) (blkOk_by (N := N_is_web) (sc := defScope s_is_web) (by decide +kernel)) (fun _ _ _ _ _ => (pg_name (i := 1) sc_is_web.nd rfl (Or.inl rfl))) (fun _ _ _ _ _ => pts_nil) (fun _ _ _ _ _ => (pe_call G_is_node (hr.mono (by omega)) rfl T.D_is_node.g T.D_is_node.F.kp T.D_is_node.b .nil pass0 (pa_cons (pv 1) (pa_cons (pe_callB (Dat.lenQ (K := K) rfl) rfl T.b_len bt_len (pa_cons (pv 0) pa_nil)) pa_nil))))) pa_nil))))), ?_⟩
  rintro as Ω P ⟨W, rfl, o, h⟩
  have l1 := o.l1
  have l2 := o.l2
  refine s_seq (s_ifB (b := !(true && decide (W.length ≤ 120))) (t_notB (t_andB (t_ofB ?_) fun _ => t_ofC ?_)) (fun z => ?_) fun z => s_next ?_)
  · repeat' trivial
  · refine e_chain (e_int (e_cb (a_cons (e_var rfl (a_nil (c_lenT (r_I0b ⟨true, ?_, fun _ => e_int (r_I0b ⟨?_, rfl⟩), nofun⟩)))))))
    · rw [List.length_map, decide_eq_true (by omega)]
    · rw [List.length_map]
      exact congrArg (fun b => Av.dat (PyData.bool b)) (decide_eq_decide.mpr (by omega))
  · have hn : decide (W.length ≤ 120) = false := by
      cases e : decide (W.length ≤ 120) with
      | false => rfl
      | true => rw [e] at z; cases z
    have ej : jud W = false := by
      unfold jud
      rw [hn]
      rfl
    rw [ej] at h
    exact s_ret (e_bl h)
  · have hn : decide (W.length ≤ 120) = true := by
      cases e : decide (W.length ≤ 120) with
      | true => rfl
      | false => rw [e] at z; cases z
    refine s_ret (e_cb (a_cons (e_lcM W (fun m => .dat (ndD m)) (fun n => .bool (n.all wIn)) (gn_name (by decide)) (by omega) ?_)))
    refine i_tup (e_var rfl ⟨_, rfl, by rw [List.map_map]; rfl, fun x Ω' hx _ => g_name ⟨rfl, ?_⟩, ?_⟩)
    · refine e_call (a_cons (e_var rfl (a_cons (e_cb (a_cons (e_var rfl (a_nil (c_lenT (a_nil ⟨x, W.length, ?_, o.nd x hx, o.tg x hx, rfl, rfl⟩)))))))))
      rw [List.length_map]
    · refine a_nil (c_allM ?_)
      have ej : jud W = W.all fun n => n.all wIn := by
        unfold jud
        rw [hn]
        rfl
      rw [ej] at h
      exact h
end
end K05

set_option Elab.async false
set_option linter.all false
set_option maxRecDepth 100000
set_option maxHeartbeats 1000000
namespace K05
open PySem PySem.Spec PyProof.Rows L2 Dat Dkd LamX NdefX Clo
local macro_rules | `(tactic| trivial) => `(tactic| (first
  | (with_reducible refine s_seq ?_)
  | (with_reducible refine s_asg ?_)
  | (with_reducible refine s_ret ?_)
  | (with_reducible refine s_drop ?_)
  | (with_reducible refine s_next ?_)
  | (with_reducible refine s_retN ?_)
  | (with_reducible refine s_brk ?_)
  | (with_reducible refine s_cont ?_)
  | (with_reducible refine s_if ?_)
  | (with_reducible refine e_int ?_)
  | (with_reducible refine e_str ?_)
  | (with_reducible refine e_bl ?_)
  | (with_reducible refine e_non ?_)
  | (with_reducible refine e_ty ?_)
  | (with_reducible refine e_tupD ?_)
  | (with_reducible refine e_lstD ?_)
  | (with_reducible refine e_op ?_)
  | (with_reducible refine e_un ?_)
  | (with_reducible refine e_then ?_)
  | (with_reducible refine e_cb ?_)
  | (with_reducible refine e_call ?_)
  | (with_reducible refine e_if ?_)
  | (with_reducible refine e_chain ?_)
  | (with_reducible refine e_andV ?_)
  | (with_reducible refine e_orV ?_)
  | (with_reducible refine e_notV ?_)
  | (with_reducible refine a_cons ?_)
  | (with_reducible refine a_nil ?_)
  | (with_reducible refine t_test ?_)
  | (with_reducible refine t_B ?_)
  | (with_reducible refine t_not ?_)
  | (with_reducible refine t_and ?_)
  | (with_reducible refine t_or ?_)
  | (with_reducible refine r_I0i ?_)
  | (with_reducible refine r_I0b ?_)
  | (with_reducible refine r_neg ?_)
  | (with_reducible refine r_isN ?_)
  | (with_reducible refine r_notN ?_)
  | (with_reducible refine c_lenT ?_)
  | (with_reducible refine c_lenL ?_)
  | (with_reducible refine c_intI ?_)
  | (with_reducible refine c_intB ?_)
  | (with_reducible refine c_max2 ?_)
  | (with_reducible refine c_min2 ?_)
  | (with_reducible refine c_abs ?_)
  | (with_reducible refine r_tupL ?_)
  | (with_reducible refine r_tupT ?_)
  | (with_reducible refine c_allM ?_)
  | ((with_reducible apply e_var); (exact rfl))
  | ((with_reducible refine r_eq ?_ ?_); (exact rfl))
  | ((with_reducible refine r_ne ?_ ?_); (exact rfl))
  | (with_reducible refine c_isi kit_int ?_)
  | (with_reducible refine c_isi kit_bool ?_)
  | (with_reducible refine c_isi kit_tuple ?_)
  | (with_reducible refine c_isi kit_list ?_)
  | (with_reducible refine c_isi kit_str ?_)
  | ((with_reducible apply r_ixT); (exact rfl))
  | ((with_reducible apply dats_pack); (iterate 40 (first | exact Dats.nil | apply Dats.cons | skip)); (exact rfl))
  | (with_reducible refine s_asgG ?_) | (with_reducible refine g_name ?_) | ((with_reducible refine g_tup ?_ ?_); (exact rfl)) | (refine gs_nil ?_) | (refine gs_cons ?_) | (with_reducible refine ⟨rfl, ?_⟩)
  | (refine ⟨_, rfl, ?_⟩) | (refine ⟨_, _, rfl, ?_⟩) | (refine ⟨_, _, _, rfl, ?_⟩) | (with_reducible refine ⟨fun _ => ?_, fun _ => ?_⟩) | fail))
/-! ### the web of the pairs -/
theorem addP_mem {row : List Nat} : ∀ {ts : List Pr} {j : Nat} {F : Fo}, (∀ x ∈ F.map (·.1), x ∈ (addP row j F ts).map (·.1)) ∧ ∀ t ∈ ts, t ∈ (addP row j F ts).map (·.1)
  | [], _, F => ⟨fun x h => h, fun t h => by cases h⟩
  | t :: r, j, F => by
    rw [addP_cons]
    by_cases ht : t ∈ F.map (·.1)
    · rw [if_pos ht]
      obtain ⟨h1, h2⟩ := addP_mem (row := row) (ts := r) (j := j + 1) (F := F)
      refine ⟨h1, fun x hx => ?_⟩
      rcases List.mem_cons.mp hx with rfl | hx
      · exact h1 _ ht
      · exact h2 x hx
    · rw [if_neg ht]
      obtain ⟨h1, h2⟩ := addP_mem (row := row) (ts := r) (j := j + 1) (F := F ++ [(t, row ++ [j])])
      have e : (F ++ [(t, row ++ [j])]).map (·.1) = F.map (·.1) ++ [t] := by rw [List.map_append]; rfl
      refine ⟨fun x hx => h1 x (by rw [e]; exact List.mem_append_left _ hx), fun x hx => ?_⟩
      rcases List.mem_cons.mp hx with rfl | hx
      · exact h1 _ (by rw [e]; exact List.mem_append_right _ List.mem_cons_self)
      · exact h2 x hx
abbrev Clsd (W V : Web) (F : Fo) (i : Nat) : Prop := ∀ (j : Nat) (x : Pr × List Nat), j < i → F[j]? = some x → ∀ t ∈ tgts W V x.1, t ∈ F.map (·.1)
theorem bfs_clsd {W V : Web} (o : WOk W) (o2 : WOk V) : ∀ {k i : Nat} {F : Fo}, Gd F W.length V.length → i ≤ F.length → W.length * V.length + 1 ≤ k + i → Clsd W V F i → Clsd W V (bfs W V k F i) (bfs W V k F i).length
  | 0, i, F, g, hi, hk, _ => by
    have := g.len
    omega
  | k + 1, i, F, g, hi, hk, h => by
    cases e : F[i]? with
    | none =>
      have e2 : bfs W V (k + 1) F i = F := by
        show (match F[i]? with | none => F | some x => bfs W V k (addP x.2 0 F (tgts W V x.1)) (i + 1)) = _
        rw [e]
      rw [e2]
      have := List.getElem?_eq_none_iff.mp e
      exact fun j x hj => h j x (by omega)
    | some x =>
      rw [bfs_step e]
      have hx := g.b x (List.mem_of_getElem? e)
      have hl := (List.getElem?_eq_some_iff.mp e).1
      obtain ⟨g1, G, e1⟩ := g.addP (row := x.2) (j := 0) (tgts_lt o o2 hx.1 hx.2)
      obtain ⟨m1, m2⟩ := addP_mem (row := x.2) (ts := tgts W V x.1) (j := 0) (F := F)
      refine bfs_clsd o o2 g1 (by rw [e1, List.length_append]; omega) (by omega) fun j y hj hy t ht => ?_
      rw [e1, List.getElem?_append_left (by omega)] at hy
      by_cases ej : j = i
      · subst ej
        rw [e] at hy
        cases hy
        exact m2 t ht
      · exact m1 t (h j y (by omega) hy t ht)
theorem met_clsd {W V : Web} (o : WOk W) (o2 : WOk V) {x : Pr} (hx : x ∈ (met W V).map (·.1)) : ∀ t ∈ tgts W V x, t ∈ (met W V).map (·.1) := by
  obtain ⟨y, hy, rfl⟩ := List.mem_map.mp hx
  obtain ⟨j, hj, e⟩ := List.getElem_of_mem hy
  exact bfs_clsd o o2 (gd0 o o2) (Nat.zero_le _) (by omega) (fun j x hj => absurd hj (Nat.not_lt_zero _)) j y hj (by rw [← e]; exact List.getElem?_eq_getElem hj)
theorem met_zero {W V : Web} (o : WOk W) (o2 : WOk V) : ((0, 0) : Pr) ∈ (met W V).map (·.1) := by
  obtain ⟨_, G, e⟩ := bfs_gd o o2 (k := W.length * V.length + 1) (i := 0) (gd0 o o2)
  have e' : met W V = [((0, 0), [])] ++ G := e
  rw [e']
  exact List.mem_cons_self
noncomputable def srtP (l : List Pr) : List Pr := l.mergeSort fun x y => PySem.W.dataLe false id (prD x) (prD y)
theorem srtP_D (l : List Pr) : (srtP l).map prD = srtD (l.map prD) := by
  unfold srtP srtD
  exact List.map_mergeSort fun a _ b _ => rfl
theorem srtP_perm (l : List Pr) : (srtP l).Perm l := List.mergeSort_perm ..
noncomputable def prs (W V : Web) : List Pr := srtP ((met W V).map (·.1))
theorem pfD_prs {F : Fo} : pfD F = (F.map (·.1)).map prD := by
  unfold pfD
  rw [List.map_map]
  rfl
theorem prs_D (W V : Web) : srtD (pfD (met W V)) = (prs W V).map prD := by
  rw [pfD_prs]
  exact (srtP_D _).symm
theorem prs_mem {W V : Web} {x : Pr} : x ∈ prs W V ↔ x ∈ (met W V).map (·.1) := (srtP_perm _).mem_iff
theorem prs_nd {W V : Web} (o : WOk W) (o2 : WOk V) : (prs W V).Nodup := (srtP_perm _).nodup_iff.mpr (met_gd o o2).nd
theorem prs_len {W V : Web} (o : WOk W) (o2 : WOk V) : 1 ≤ (prs W V).length ∧ (prs W V).length ≤ 14400 := by
  have h := (srtP_perm ((met W V).map (·.1))).length_eq
  have g := (met_gd o o2).len
  have m := mul_le o.l2 o2.l2
  rw [List.length_map] at h
  refine ⟨?_, by unfold prs; omega⟩
  exact List.length_pos_iff.mpr fun e => by
    have := prs_mem.mpr (met_zero o o2)
    rw [e] at this
    cases this
theorem prs_lt {W V : Web} (o : WOk W) (o2 : WOk V) {x : Pr} (h : x ∈ prs W V) : x.1 < W.length ∧ x.2 < V.length := by
  obtain ⟨y, hy, rfl⟩ := List.mem_map.mp (prs_mem.mp h)
  exact (met_gd o o2).b y hy
def lens (W V : Web) (x : Pr) : Bool := decide ((look W x.1).length = (look V x.2).length)
def ndL (W V : Web) (S : List Pr) (x : Pr) : Nd := (List.zip (look W x.1) (look V x.2)).map fun m => (m.1.1 - m.2.1, S.idxOf (m.1.2, m.2.2))
noncomputable def dif (W V : Web) : Web := (prs W V).map (ndL W V (prs W V))
noncomputable def difK (W V : Web) : Nat := if (prs W V).all (lens W V) then (if jud (dif W V) then 0 else 2) else 1
theorem dif_near {W V : Web} (o : WOk W) (o2 : WOk V) (h : (prs W V).all (lens W V) = true) : Near (dif W V) := by
  have l := prs_len o o2
  refine ⟨by unfold dif; rw [List.length_map]; exact l.1, by unfold dif; rw [List.length_map]; exact l.2, fun n hn => ?_, fun n hn m hm => ?_⟩
  · obtain ⟨x, hx, rfl⟩ := List.mem_map.mp hn
    have b := prs_lt o o2 hx
    have e := of_decide_eq_true (List.all_eq_true.mp h x hx)
    have := o.nd _ (look_mem b.1)
    unfold ndL
    rw [List.length_map, List.length_zip]
    omega
  · obtain ⟨x, hx, rfl⟩ := List.mem_map.mp hn
    obtain ⟨mm, hmm, rfl⟩ := List.mem_map.mp hm
    have ht : (mm.1.2, mm.2.2) ∈ prs W V := prs_mem.mpr (met_clsd o o2 (prs_mem.mp hx) _ (List.mem_map.mpr ⟨mm, hmm, rfl⟩))
    unfold dif
    rw [List.length_map]
    exact List.idxOf_lt_length_of_mem ht
theorem prD_alike (l : List Pr) : AlikeD (l.map prD) := by
  refine ⟨fun d hd d' hd' => ?_, .inl fun d hd => ?_, fun d hd => ?_⟩
  · obtain ⟨x, _, rfl⟩ := List.mem_map.mp hd
    obtain ⟨y, _, rfl⟩ := List.mem_map.mp hd'
    simp [prD, PySem.W.alike, PySem.W.alikeAll]
  · obtain ⟨x, _, rfl⟩ := List.mem_map.mp hd
    exact ⟨_, _, rfl⟩
  · obtain ⟨x, _, rfl⟩ := List.mem_map.mp hd
    simp [prD, PyData.depth, PyData.depthAll]
theorem lookL_data (l : List Fe) (k : PyData) : lookL l k = ((dataL l).find? fun x => decide (x.1 = k)).map (·.2) := by
  induction l with
  | nil => rfl
  | cons x l ih =>
    by_cases e : x.1 = k
    · simp [lookL, dataL, List.find?_cons, e]
    · have a1 : lookL (x :: l) k = lookL l k := by simp [lookL, List.find?_cons, e]
      have a2 : ((dataL (x :: l)).find? fun y => decide (y.1 = k)) = (dataL l).find? fun y => decide (y.1 = k) := by simp [dataL, List.find?_cons, e]
      rw [a1, a2, ih]
theorem find_prs {t : Pr} : ∀ {S : List Pr} {k : Nat}, t ∈ S → (((S.zipIdx k).map fun p => (prD p.1, PyData.int ((p.2 : Nat) : Int))).find? fun x => decide (x.1 = prD t)).map (·.2) = some (.int ((k + S.idxOf t : Nat) : Int))
  | [], _, h => by cases h
  | a :: S, k, h => by
    rw [List.zipIdx_cons, List.map_cons, List.find?_cons]
    by_cases e : a = t
    · subst e
      simp
    · have e' : ¬ prD a = prD t := fun z => e (prD_inj z)
      have ht : t ∈ S := by
        rcases List.mem_cons.mp h with z | z
        · exact absurd z.symm e
        · exact z
      have ih := find_prs (S := S) (k := k + 1) ht
      simp only [e', decide_false]
      have ei : (a :: S).idxOf t = S.idxOf t + 1 := by
        have hb : (a == t) = false := beq_eq_false_iff_ne.mpr e
        rw [List.idxOf_cons, hb]
        rfl
      rw [ih, ei]
      congr 2
      omega
section
variable {P : Program} {w : World} {K : PySem.W.Frag} [Tb K] {mg : Str → Option Value} {base : Heap}
theorem enumA_zip {α : Type} (S : List α) (f : α → PyData) : enumA (S.map f) = S.zipIdx.map fun p => .dat (.tuple [.int ((p.2 : Nat) : Int), f p.1]) := by
  unfold enumA
  rw [List.length_map]
  refine List.ext_getElem (by simp) fun i h1 h2 => ?_
  have hi : i < S.length := by simpa using h1
  simp [List.getD_eq_getElem?_getD, hi]
theorem sy_ifB {Γ : List (Option Av)} {Ω : AH} {E : EndA} {xc : XAY} {W : WX} {t u : TS} {tt : TT} {b : Bool} (h : TW K tt Γ Ω (IsT b Ω)) (h1 : b = true → SWY K W t Γ Ω E xc) (h2 : b = false → SWY K W u Γ Ω E xc) : SWY K W (tIfS tt t u) Γ Ω E xc :=
  sy_if (h.mono fun a Ω' ⟨e, eo⟩ => by subst e eo; exact ⟨h1, h2⟩)
abbrev spDiff (CB CT : Addr) : ASpY := fun as Ω P PX => ∃ W V : Web, as = [.dat (webD W), .dat (webD V)] ∧ WOk W ∧ WOk V ∧ (difK W V = 1 → PX (.ref CB) none Ω) ∧ (difK W V = 2 → PX (.ref CT) none Ω) ∧ (difK W V = 0 → P (.dat (webD (dif W V))) Ω)
theorem ok_difference (T : Top P K mg) {Pw : Addr} (TB : TabB base mg T.cw Pw) (hT : Tb.T (K := K) = [(Pw, pbQ)]) : FnOk P w K mg base (L2.CX P w) 7 T.f_difference T.d_difference ["web", "other"] (spY K (spDiff T.x_BadWeb T.x_TooMany)) := by
  have G_check_web : FnOk P w K mg base CX0 6 T.f_check_web T.d_check_web ["thing"] (spA K spChkW) := ok_check_web T
  have G_pair_steps : FnOk P w K mg base CX0 3 T.f_pair_steps T.d_pair_steps ["web", "other"] (spA K (spSteps w)) := ok_pair_steps T TB hT
  have G_is_web : FnOk P w K mg base CX0 5 T.f_is_web T.d_is_web ["thing"] (spA K spWebJ) := ok_is_webJ T
  have G_node_less : FnOk P w K mg base CX0 1 T.f_node_less T.d_node_less ["moves", "others", "places"] (spA K (spLess w)) := ok_node_less T
  refine fnY_ok T.D_difference.F sc_difference (fun as Ω P PX ⟨W, V, e, _⟩ => by subst e; rfl) (fun cdv A outer s H E hr tk => ?_)
  obtain ⟨ds0, hvd, hbd⟩ := T.D_pair_steps.b
  refine ⟨_, (pss_cons (ps_expr (pe_call G_check_web (hr.mono (by omega)) rfl T.D_check_web.g T.D_check_web.F.kp T.D_check_web.b .nil pass0 (pa_cons (pv 0) pa_nil)))
    (pss_cons (ps_expr (pe_call G_check_web (hr.mono (by omega)) rfl T.D_check_web.g T.D_check_web.F.kp T.D_check_web.b .nil pass0 (pa_cons (pv 1) pa_nil)))
    (pss_cons (ps_set (i := 2) sc_difference.nd rfl (.inl rfl) (pe_callB (Dat.sortedEQ (K := K) (w := w) rfl rfl rfl (by exact hu100 hr)) rfl T.b_sorted bt_sorted (pa_cons (pe_call (dvs := []) G_pair_steps (hr.mono (by omega)) rfl T.D_pair_steps.g T.D_pair_steps.kp hbd hvd pass0 (pa_cons (pv 0) (pa_cons (pv 1) pa_nil))) pa_nil)))
    (pss_cons (ps_if (pt_val (pe_callB (Dat.anyQ (K := K) rfl rfl) rfl T.b_any bt_any (pa_cons (pe_lc (own := [("node", 3), ("beside", 4)]) (g := (gTup K 2 (gCons (gName 3) (gCons (gName 4) gNil)))) (tt := tYes) rfl sc_difference.nd (Dat.piL (K := K) rfl (pv 2)) (blkOk_by (N := N_difference) (sc := defScope s_difference) (by decide +kernel)) (fun _ _ _ _ _ => (Dat.pgT (K := K) (n := 2) rfl rfl (pgs_cons (pg_name (i := 3) sc_difference.nd rfl (Or.inl rfl)) (pgs_cons (pg_name (i := 4) sc_difference.nd rfl (Or.inl rfl)) pgs_nil)))) (fun _ _ _ _ _ => pts_nil) (fun _ _ _ _ _ => (pe_cmpR op_ne (pe_callB (Dat.lenQ (K := K) rfl) rfl T.b_len bt_len (pa_cons (pe_ix (Dat.ixT (K := K) rfl) (pv 0) (pv 3) (fun _ _ => rfl)) pa_nil)) (pe_callB (Dat.lenQ (K := K) rfl) rfl T.b_len bt_len (pa_cons (pe_ix (Dat.ixT (K := K) rfl) (pv 1) (pv 4) (fun _ _ => rfl)) pa_nil)) (nomark _)))) pa_nil)))
      (pss_one (ps_raiseY T.Y_BadWeb rfl rfl rfl tk rfl))
      pss_nil)
    (pss_cons (ps_set (i := 5) sc_difference.nd rfl (.inr rfl) (Dat.pe_dcE (K := K) (w := w) (own := [("place", 7), ("pair", 6)]) (g := (gTup K 2 (gCons (gName 7) (gCons (gName 6) gNil)))) (tt := tYes) rfl rfl (by exact hu20 hr) rfl sc_difference.nd  (Dat.enumQ (K := K) rfl rfl T.b_enumerate (pa_cons (pv 2) pa_nil)) (blkOk_by (N := N_difference) (sc := defScope s_difference) (by decide +kernel)) (fun _ _ _ _ _ => (Dat.pgT (K := K) (n := 2) rfl rfl (pgs_cons (pg_name (i := 7) sc_difference.nd rfl (Or.inl rfl)) (pgs_cons (pg_name (i := 6) sc_difference.nd rfl (Or.inl rfl)) pgs_nil)))) (fun _ _ _ _ _ => pts_nil) (fun _ _ _ _ _ => (pv 6)) (fun _ _ _ _ _ => (pv 7))))
    (pss_cons (ps_set (i := 8) sc_difference.nd rfl (.inl rfl) (Dat.pe_tupleK (K := K) rfl rfl T.b_tuple (pe_lc (own := [("node", 3), ("beside", 4)]) (g := (gTup K 2 (gCons (gName 3) (gCons (gName 4) gNil)))) (tt := tYes) rfl sc_difference.nd (Dat.piL (K := K) rfl (pv 2)) (blkOk_by (N := N_difference) (sc := defScope s_difference) (by decide +kernel)) (fun _ _ _ _ _ => (Dat.pgT (K := K) (n := 2) rfl rfl (pgs_cons (pg_name (i := 3) sc_difference.nd rfl (Or.inl rfl)) (pgs_cons (pg_name (i := 4) sc_difference.nd rfl (Or.inl rfl)) pgs_nil)))) (fun _ _ _ _ _ => pts_nil) (fun _ _ _ _ _ => (pe_call G_node_less (hr.mono (by omega)) rfl T.D_node_less.g T.D_node_less.F.kp T.D_node_less.b .nil pass0 (pa_cons (pe_ix (Dat.ixT (K := K) rfl) (pv 0) (pv 3) (fun _ _ => rfl)) (pa_cons (pe_ix (Dat.ixT (K := K) rfl) (pv 1) (pv 4) (fun _ _ => rfl)) (pa_cons (pv 5) pa_nil))))))))
    (pss_cons (ps_if (pt_not (pt_val (pe_call G_is_web (hr.mono (by omega)) rfl T.D_is_web.g T.D_is_web.F.kp T.D_is_web.b .nil pass0 (pa_cons (pv 8) pa_nil))))
      (pss_one (ps_raiseY T.Y_TooMany rfl rfl rfl tk rfl))
      pss_nil)
    (pss_one (ps_ret (pv 8)))))))))), ?_⟩
  rintro as Ω P PX ⟨W, V, rfl, o, o2, h1, h2, h0⟩
  have sl := prs_len o o2
  refine sy_seq (SWY.of (s_drop (e_call (a_cons (e_var rfl (a_nil ⟨W, rfl, o, ?_⟩))))))
  refine sy_seq (SWY.of (s_drop (e_call (a_cons (e_var rfl (a_nil ⟨V, rfl, o2, ?_⟩))))))
  refine sy_seq (SWY.of (s_asg (e_cb (a_cons (EW.dfrz (w := w) (e_call (a_cons (e_var rfl (a_cons (e_var rfl (a_nil ⟨W, V, rfl, o, o2, fun d kds od hk => ⟨d, kds, rfl, puto_same, fun ep l ed hkl => ?_⟩⟩)))))))))))
  rw [delo_puto od.2]
  subst ed
  have ek : l.map (·.1) = pfD (met W V) := hk.keys
  refine a_nil (c_srtE hkl (by rw [ek, pfD_prs]; exact prD_alike _) ?_)
  rw [ek, prs_D]
  generalize hS : prs W V = S at *
  have hlt : ∀ x ∈ S, x.1 < W.length ∧ x.2 < V.length := fun x hx => prs_lt o o2 (by rw [hS]; exact hx)
  have hnd : S.Nodup := by rw [← hS]; exact prs_nd o o2
  refine sy_seq (sy_ifB (b := S.any fun x => !lens W V x) (t_ofB ?_) (fun z => ?_) fun z => SWY.of (s_next ?_))
  · refine e_cb (a_cons (e_lcM S (fun x => .dat (prD x)) (fun x => .bool (!lens W V x)) (gn_tup (gns_cons (gn_name (by decide)) (gns_cons (gn_name (by decide)) gns_nil))) (by omega) ?_))
    refine i_list (e_var rfl ⟨_, rfl, by rw [List.map_map]; rfl, fun x Ω' hx _ => ?_, a_nil (c_anyM ⟨rfl, rfl⟩)⟩)
    refine g_tup rfl (gs_cons (g_name ⟨rfl, gs_cons (g_name ⟨rfl, gs_nil ⟨rfl, ?_⟩⟩)⟩))
    refine e_op (e_cb (a_cons (e_op (e_var rfl (e_var rfl (r_ixT (web_at (hlt x hx).1) (a_nil (c_lenT (e_cb (a_cons (e_op (e_var rfl (e_var rfl (r_ixT (web_at (hlt x hx).2) (a_nil (c_lenT (r_ne rfl ⟨rfl, ?_⟩)))))))))))))))))
    rw [List.length_map, List.length_map]
    refine congrArg (fun b => Av.dat (PyData.bool (!b))) ?_
    unfold lens
    rw [Bool.eq_iff_iff, decide_eq_true_iff]
    simp only [eqD, decide_eq_true_eq, beq_iff_eq]
    omega
  · have hn : S.all (lens W V) = false := by
      obtain ⟨x, hx, e⟩ := List.any_eq_true.mp z
      cases q : S.all (lens W V) with
      | false => rfl
      | true =>
        rw [List.all_eq_true.mp q x hx] at e
        cases e
    refine sy_raise (h1 ?_)
    unfold difK
    rw [hS, hn]
    rfl
  have hall : S.all (lens W V) = true := List.all_eq_true.mpr fun x hx => by
    cases q : lens W V x with
    | true => rfl
    | false =>
      have : (S.any fun x => !lens W V x) = true := List.any_eq_true.mpr ⟨x, hx, by rw [q]; rfl⟩
      rw [this] at z
      cases z
  have near := dif_near o o2 (by rw [hS]; exact hall)
  have edc : dcK (fun p : Pr × Nat => [PyData.int ((p.1.1 : Nat) : Int), .int ((p.1.2 : Nat) : Int)]) (fun p => .dat (.int ((p.2 : Nat) : Int))) S.zipIdx = datV (S.zipIdx.map fun p => (prD p.1, PyData.int ((p.2 : Nat) : Int))) := by
    rw [dcK_nodup]
    · unfold datV
      rw [List.map_map]
      rfl
    · have e : S.zipIdx.map (fun p : Pr × Nat => [PyData.int ((p.1.1 : Nat) : Int), .int ((p.1.2 : Nat) : Int)]) = S.map fun x => [PyData.int ((x.1 : Nat) : Int), .int ((x.2 : Nat) : Int)] := by
        have q : S = S.zipIdx.map Prod.fst := (List.zipIdx_map_fst 0 S).symm
        conv => rhs; rw [q, List.map_map]
        rfl
      rw [e]
      refine List.Pairwise.map _ (fun x y ne e => ne ?_) hnd
      exact prD_inj (congrArg PyData.tuple e)
  refine sy_seq (SWY.of (s_asg (EW.dfrz (w := w) (e_dcM (w := w) S.zipIdx (fun p => .dat (.tuple [.int ((p.2 : Nat) : Int), prD p.1])) (fun p => [.int ((p.1.1 : Nat) : Int), .int ((p.1.2 : Nat) : Int)]) (fun p => .int ((p.2 : Nat) : Int)) (gn_tup (gns_cons (gn_name (by decide)) (gns_cons (gn_name (by decide)) gns_nil))) (by rw [List.length_zipIdx]; omega) ?_))))
  refine i_enumL (a_cons (e_var rfl (a_nil ⟨_, rfl, ?_, fun p Ω' hp _ => ?_, fun D oD => ⟨D, S.zipIdx.map fun p => (prD p.1, PyData.int ((p.2 : Nat) : Int)), rfl, by rw [edc]; exact puto_same, fun ep2 l2 ed2 hkl2 => ?_⟩⟩)))
  · exact enumA_zip S prD
  · exact g_tup rfl (gs_cons (g_name ⟨rfl, gs_cons (g_name ⟨rfl, gs_nil ⟨rfl, e_var rfl ⟨rfl, rfl, prK p.1, e_var rfl ⟨rfl, rfl⟩⟩⟩⟩)⟩))
  rw [delo_puto oD.2]
  refine sy_seq (SWY.of (s_asg (e_then (e_lcM S (fun x => .dat (prD x)) (fun x => ndD (ndL W V S x)) (gn_tup (gns_cons (gn_name (by decide)) (gns_cons (gn_name (by decide)) gns_nil))) (by omega) ?_))))
  refine i_list (e_var rfl ⟨_, rfl, by rw [List.map_map]; rfl, fun x Ω' hx _ => ?_, r_tupL ?_⟩)
  · refine g_tup rfl (gs_cons (g_name ⟨rfl, gs_cons (g_name ⟨rfl, gs_nil ⟨rfl, ?_⟩⟩)⟩))
    refine e_call (a_cons (e_op (e_var rfl (e_var rfl (r_ixT (web_at (hlt x hx).1) (a_cons (e_op (e_var rfl (e_var rfl (r_ixT (web_at (hlt x hx).2) (a_cons (e_var rfl (a_nil ⟨look W x.1, look V x.2, D, ep2, l2, fun t => S.idxOf t, rfl, (o.nd _ (look_mem (hlt x hx).1)).2, hkl2, fun m hm => ?_, rfl, ?_⟩)))))))))))))
    · rw [lookL_data, ed2, find_prs (S := S) (k := 0), Nat.zero_add]
      rw [← hS]
      exact prs_mem.mpr (met_clsd o o2 (prs_mem.mp (by rw [hS]; exact hx)) _ (List.mem_map.mpr ⟨m, hm, rfl⟩))
    · unfold lessD ndD ndL
      rw [List.map_map]
      rfl
  have ew : PyData.tuple (S.map fun x => ndD (ndL W V S x)) = webD (dif W V) := by
    unfold webD dif
    rw [List.map_map, hS]
    rfl
  rw [ew]
  refine sy_seq (sy_ifB (b := !jud (dif W V)) (t_notB (t_ofB ?_)) (fun z => ?_) fun z => SWY.of (s_next ?_))
  · exact e_call (a_cons (e_var rfl (a_nil ⟨dif W V, rfl, near, rfl, rfl⟩)))
  · refine sy_raise (h2 ?_)
    unfold difK
    rw [hS, hall]
    cases q : jud (dif W V) with
    | false => rfl
    | true => rw [q] at z; cases z
  · refine SWY.of (s_ret (e_var rfl (h0 ?_)))
    unfold difK
    rw [hS, hall]
    cases q : jud (dif W V) with
    | true => rfl
    | false => rw [q] at z; cases z
end
end K05

set_option Elab.async false
set_option linter.all false
set_option maxRecDepth 100000
set_option maxHeartbeats 1000000
namespace K05
open PySem PySem.Spec PyProof.Rows L2 Dat Dkd LamX NdefX Clo
local macro_rules | `(tactic| trivial) => `(tactic| (first
  | (with_reducible refine s_seq ?_)
  | (with_reducible refine s_asg ?_)
  | (with_reducible refine s_ret ?_)
  | (with_reducible refine s_drop ?_)
  | (with_reducible refine s_next ?_)
  | (with_reducible refine s_retN ?_)
  | (with_reducible refine s_brk ?_)
  | (with_reducible refine s_cont ?_)
  | (with_reducible refine s_if ?_)
  | (with_reducible refine e_int ?_)
  | (with_reducible refine e_str ?_)
  | (with_reducible refine e_bl ?_)
  | (with_reducible refine e_non ?_)
  | (with_reducible refine e_ty ?_)
  | (with_reducible refine e_tupD ?_)
  | (with_reducible refine e_lstD ?_)
  | (with_reducible refine e_op ?_)
  | (with_reducible refine e_un ?_)
  | (with_reducible refine e_then ?_)
  | (with_reducible refine e_cb ?_)
  | (with_reducible refine e_call ?_)
  | (with_reducible refine e_if ?_)
  | (with_reducible refine e_chain ?_)
  | (with_reducible refine e_andV ?_)
  | (with_reducible refine e_orV ?_)
  | (with_reducible refine e_notV ?_)
  | (with_reducible refine a_cons ?_)
  | (with_reducible refine a_nil ?_)
  | (with_reducible refine t_test ?_)
  | (with_reducible refine t_B ?_)
  | (with_reducible refine t_not ?_)
  | (with_reducible refine t_and ?_)
  | (with_reducible refine t_or ?_)
  | (with_reducible refine r_I0i ?_)
  | (with_reducible refine r_I0b ?_)
  | (with_reducible refine r_neg ?_)
  | (with_reducible refine r_isN ?_)
  | (with_reducible refine r_notN ?_)
  | (with_reducible refine c_lenT ?_)
  | (with_reducible refine c_lenL ?_)
  | (with_reducible refine c_intI ?_)
  | (with_reducible refine c_intB ?_)
  | (with_reducible refine c_max2 ?_)
  | (with_reducible refine c_min2 ?_)
  | (with_reducible refine c_abs ?_)
  | (with_reducible refine r_tupL ?_)
  | (with_reducible refine r_tupT ?_)
  | (with_reducible refine c_allM ?_)
  | ((with_reducible apply e_var); (exact rfl))
  | ((with_reducible refine r_eq ?_ ?_); (exact rfl))
  | ((with_reducible refine r_ne ?_ ?_); (exact rfl))
  | (with_reducible refine c_isi kit_int ?_)
  | (with_reducible refine c_isi kit_bool ?_)
  | (with_reducible refine c_isi kit_tuple ?_)
  | (with_reducible refine c_isi kit_list ?_)
  | (with_reducible refine c_isi kit_str ?_)
  | ((with_reducible apply r_ixT); (exact rfl))
  | ((with_reducible apply dats_pack); (iterate 40 (first | exact Dats.nil | apply Dats.cons | skip)); (exact rfl))
  | (with_reducible refine s_asgG ?_) | (with_reducible refine g_name ?_) | ((with_reducible refine g_tup ?_ ?_); (exact rfl)) | (refine gs_nil ?_) | (refine gs_cons ?_) | (with_reducible refine ⟨rfl, ?_⟩)
  | (refine ⟨_, rfl, ?_⟩) | (refine ⟨_, _, rfl, ?_⟩) | (refine ⟨_, _, _, rfl, ?_⟩) | (with_reducible refine ⟨fun _ => ?_, fun _ => ?_⟩) | fail))
/-! ### _law_difference -/
noncomputable def difD (W V : Web) : PyData := if difK W V = 0 then webD (dif W V) else .tuple [.bool (decide (difK W V = 1)), .bool (decide (difK W V = 2))]
theorem difD1 {W V : Web} (h : difK W V = 1) : difD W V = .tuple [.bool true, .bool false] := by unfold difD; rw [h]; rfl
theorem difD2 {W V : Web} (h : difK W V = 2) : difD W V = .tuple [.bool false, .bool true] := by unfold difD; rw [h]; rfl
theorem difD0 {W V : Web} (h : difK W V = 0) : difD W V = webD (dif W V) := by unfold difD; rw [h]; rfl
theorem difK_one {W V : Web} {x : Pr} (hx : x ∈ (met W V).map (·.1)) (h : lens W V x = false) : difK W V = 1 := by
  unfold difK
  rw [if_neg]
  intro z
  rw [List.all_eq_true.mp z x (prs_mem.mpr hx)] at h
  cases h
theorem prs_shaped (S : List Pr) : SeqAt.shaped (.list (S.map prD)) = true := by
  have e : S.map prD = pfD (S.map fun x => (x, [])) := by
    unfold pfD
    rw [List.map_map]
    rfl
  rw [e]
  exact pf_shaped _
theorem prD_eqv (x y : Pr) : PyData.eqv (prD x) (prD y) = decide (x = y) := by
  obtain ⟨a, b⟩ := x
  obtain ⟨c, d⟩ := y
  rw [Bool.eq_iff_iff, decide_eq_true_iff]
  simp only [prD, PyData.eqv, PyData.eqvAll, Bool.and_eq_true, beq_iff_eq, Prod.mk.injEq, and_true]
  omega
theorem idx_cons {a t : Pr} {S : List Pr} : (a :: S).idxOf t = if a = t then 0 else S.idxOf t + 1 := by
  rw [List.idxOf_cons]
  by_cases e : a = t
  · have hb : (a == t) = true := beq_iff_eq.mpr e
    rw [hb, if_pos e]
    rfl
  · have hb : (a == t) = false := beq_eq_false_iff_ne.mpr e
    rw [hb, if_neg e]
    rfl
theorem idx_first : ∀ {S : List Pr} {t : Pr} {m : Nat}, m < S.idxOf t → S[m]? = some t → False
  | [], _, _, _, e => by simp at e
  | a :: S, t, m, h, e => by
    rw [idx_cons] at h
    by_cases q : a = t
    · rw [if_pos q] at h
      omega
    · rw [if_neg q] at h
      cases m with
      | zero =>
        rw [List.getElem?_cons_zero] at e
        injection e with e
        exact q e
      | succ m =>
        rw [List.getElem?_cons_succ] at e
        exact idx_first (by omega) e
theorem idx_prs {S : List Pr} {t : Pr} (h : t ∈ S) : (S.map prD)[S.idxOf t]? = some (prD t) ∧ ∀ m e, m < S.idxOf t → (S.map prD)[m]? = some e → PyData.eqv e (prD t) = false := by
  have hl := List.idxOf_lt_length_of_mem h
  refine ⟨?_, fun m e hm he => ?_⟩
  · rw [List.getElem?_map, List.getElem?_eq_getElem hl, List.getElem_idxOf hl]
    rfl
  · rw [List.getElem?_map] at he
    obtain ⟨x, hx, rfl⟩ := Option.map_eq_some_iff.mp he
    rw [prD_eqv]
    refine decide_eq_false fun q => ?_
    subst q
    exact idx_first hm hx
def farL (D : Web) : List PyData := D.flatMap fun n => (n.filter fun m => !wIn m).map fun m => .int m.1
theorem farL_nil {D : Web} : farL D = [] ↔ (D.all fun n => n.all wIn) = true := by
  unfold farL
  rw [List.flatMap_eq_nil_iff, List.all_eq_true]
  refine forall_congr' fun n => forall_congr' fun hn => ?_
  rw [List.map_eq_nil_iff, List.filter_eq_nil_iff, List.all_eq_true]
  refine forall_congr' fun m => forall_congr' fun hm => ?_
  cases wIn m <;> simp
theorem farL_len : ∀ {D : Web}, (∀ n ∈ D, n.length ≤ 12) → (farL D).length ≤ 12 * D.length
  | [], _ => Nat.le_refl _
  | n :: D, h => by
    have h1 := farL_len (D := D) fun x hx => h x (List.mem_cons_of_mem _ hx)
    have h2 := h n List.mem_cons_self
    have h3 := List.length_filter_le (fun m => !wIn m) n
    have e : farL (n :: D) = ((n.filter fun m => !wIn m).map fun m => PyData.int m.1) ++ farL D := rfl
    rw [e, List.length_append, List.length_map, List.length_cons]
    omega
theorem ints_shaped {l : List PyData} (h : ∀ d ∈ l, ∃ i, d = .int i) : SeqAt.shaped (.list l) = true := by
  have q : PyData.canLayAll0 l = true ∧ PyData.depthAll l = 0 := by
    induction l with
    | nil => exact ⟨rfl, rfl⟩
    | cons d l ih =>
      obtain ⟨i, rfl⟩ := h d List.mem_cons_self
      obtain ⟨a, b⟩ := ih fun x hx => h x (List.mem_cons_of_mem _ hx)
      simp [PyData.canLayAll0, PyData.canLay0, PyData.depthAll, PyData.depth, a, b]
  unfold SeqAt.shaped
  simp [PyData.canLay0, PyData.depth, q.1, q.2]
theorem farL_ints {D : Web} : ∀ d ∈ farL D, ∃ i, d = PyData.int i := fun d hd => by
  obtain ⟨n, _, hn⟩ := List.mem_flatMap.mp hd
  obtain ⟨m, _, rfl⟩ := List.mem_map.mp hn
  exact ⟨_, rfl⟩
theorem eqv_nil (l : List PyData) : PyData.eqv (.list l) (.list []) = decide (l = []) := by
  cases l <;> simp [PyData.eqv, PyData.eqvAll]
section
variable {P : Program} {w : World} {K : PySem.W.Frag} [Tb K] {mg : Str → Option Value} {base : Heap}
abbrev spLDif : ASp := fun as Ω P => ∃ W V : Web, as = [.dat (webD W), .dat (webD V)] ∧ WOk W ∧ WOk V ∧ W.length * V.length ≤ 8000 ∧ P (.dat (difD W V)) Ω
set_option maxHeartbeats 4000000 in
theorem ok_law_difference (T : Top P K mg) : FnOk P w K mg base CX0 1 T.f__law_difference T.d__law_difference ["_law_net", "_law_twin"] (spA K spLDif) := by
  refine fnA_ok T.D__law_difference.F sc__law_difference (fun as Ω P ⟨W, V, e, _⟩ => by subst e; rfl) (fun cdv A outer s H E hr => ?_)
  refine ⟨_, (pss_cons (ps_par (i := 2) (j := 3) rfl sc__law_difference.nd rfl rfl (by decide) rfl rfl (pa_cons (pe_lst (pa_cons (pe_tup (pa_cons pe_int (pa_cons pe_int pa_nil))) pa_nil)) (pa_cons pe_int pa_nil)) (by rfl))
    (pss_cons (ps_while PassesOwn.never (pt_cmpR op_lt (pv 3) (pe_callB (Dat.lenQ (K := K) rfl) rfl T.b_len bt_len (pa_cons (pv 2) pa_nil)) (nomark _))
      (pss_cons (ps_par (i := 4) (j := 5) rfl sc__law_difference.nd rfl rfl (by decide) rfl rfl (pa_cons (pe_ix (Dat.ixT (K := K) rfl) (pv 0) (pe_ix (Dat.ixT (K := K) rfl) (pe_ix (Dat.ixL (K := K) rfl) (pv 2) (pv 3) (fun _ _ => rfl)) pe_int (fun _ _ => rfl)) (fun _ _ => rfl)) (pa_cons (pe_ix (Dat.ixT (K := K) rfl) (pv 1) (pe_ix (Dat.ixT (K := K) rfl) (pe_ix (Dat.ixL (K := K) rfl) (pv 2) (pv 3) (fun _ _ => rfl)) pe_int (fun _ _ => rfl)) (fun _ _ => rfl)) pa_nil)) (by rfl))
      (pss_cons (ps_if (pt_cmpR op_ne (pe_callB (Dat.lenQ (K := K) rfl) rfl T.b_len bt_len (pa_cons (pv 4) pa_nil)) (pe_callB (Dat.lenQ (K := K) rfl) rfl T.b_len bt_len (pa_cons (pv 5) pa_nil)) (nomark _))
        (pss_one (ps_ret (pe_tup (pa_cons pe_bl (pa_cons pe_bl pa_nil)))))
        pss_nil)
      (pss_cons (ps_for PassesOwn.never rfl (pi_range1 rfl T.b_range (pa_cons (pe_callB (Dat.lenQ (K := K) rfl) rfl T.b_len bt_len (pa_cons (pv 4) pa_nil)) pa_nil)) (pg_name (i := 6) sc__law_difference.nd rfl (.inl rfl))
        (pss_cons (ps_set (i := 7) sc__law_difference.nd rfl (.inl rfl) (pe_tup (pa_cons (pe_ix (Dat.ixT (K := K) rfl) (pe_ix (Dat.ixT (K := K) rfl) (pv 4) (pv 6) (fun _ _ => rfl)) pe_int (fun _ _ => rfl)) (pa_cons (pe_ix (Dat.ixT (K := K) rfl) (pe_ix (Dat.ixT (K := K) rfl) (pv 5) (pv 6) (fun _ _ => rfl)) pe_int (fun _ _ => rfl)) pa_nil))))
        (pss_one (ps_if (pt_cmpR (op_niD (K := K) rfl (hu100 hr)) (pv 7) (pv 2) rfl)
          (pss_one (ps_expr (Dat.appQ (K := K) rfl (pv 2) (pa_cons (pv 7) pa_nil))))
          pss_nil))))
      (pss_one (ps_set (i := 3) sc__law_difference.nd rfl (.inl rfl) (pe_op op_add (pv 3) pe_int)))))))
    (pss_cons (ps_set (i := 2) sc__law_difference.nd rfl (.inl rfl) (pe_callB (Dat.sortedDQ (K := K) rfl (by exact hu100 hr)) rfl T.b_sorted bt_sorted (pa_cons (pv 2) pa_nil)))
    (pss_cons (ps_set (i := 8) sc__law_difference.nd rfl (.inl rfl) (pe_lst pa_nil))
    (pss_cons (ps_for PassesOwn.never rfl (Dat.piL (K := K) rfl (pv 2)) (Dat.pgT (K := K) (n := 2) rfl rfl (pgs_cons (pg_name (i := 4) sc__law_difference.nd rfl (.inl rfl)) (pgs_cons (pg_name (i := 5) sc__law_difference.nd rfl (.inl rfl)) pgs_nil)))
      (pss_cons (ps_set (i := 9) sc__law_difference.nd rfl (.inl rfl) (pe_lst pa_nil))
      (pss_cons (ps_for PassesOwn.never rfl (pi_range1 rfl T.b_range (pa_cons (pe_callB (Dat.lenQ (K := K) rfl) rfl T.b_len bt_len (pa_cons (pe_ix (Dat.ixT (K := K) rfl) (pv 0) (pv 4) (fun _ _ => rfl)) pa_nil)) pa_nil)) (pg_name (i := 6) sc__law_difference.nd rfl (.inl rfl))
        (pss_cons (ps_set (i := 7) sc__law_difference.nd rfl (.inl rfl) (pe_tup (pa_cons (pe_ix (Dat.ixT (K := K) rfl) (pe_ix (Dat.ixT (K := K) rfl) (pe_ix (Dat.ixT (K := K) rfl) (pv 0) (pv 4) (fun _ _ => rfl)) (pv 6) (fun _ _ => rfl)) pe_int (fun _ _ => rfl)) (pa_cons (pe_ix (Dat.ixT (K := K) rfl) (pe_ix (Dat.ixT (K := K) rfl) (pe_ix (Dat.ixT (K := K) rfl) (pv 1) (pv 5) (fun _ _ => rfl)) (pv 6) (fun _ _ => rfl)) pe_int (fun _ _ => rfl)) pa_nil))))
        (pss_one (ps_expr (Dat.appQ (K := K) rfl (pv 9) (pa_cons (pe_tup (pa_cons (pe_op op_sub (pe_ix (Dat.ixT (K := K) rfl) (pe_ix (Dat.ixT (K := K) rfl) (pe_ix (Dat.ixT (K := K) rfl) (pv 0) (pv 4) (fun _ _ => rfl)) (pv 6) (fun _ _ => rfl)) pe_int (fun _ _ => rfl)) (pe_ix (Dat.ixT (K := K) rfl) (pe_ix (Dat.ixT (K := K) rfl) (pe_ix (Dat.ixT (K := K) rfl) (pv 1) (pv 5) (fun _ _ => rfl)) (pv 6) (fun _ _ => rfl)) pe_int (fun _ _ => rfl))) (pa_cons (Dat.idxQ (K := K) rfl (by exact hu100 hr) (pv 2) (pa_cons (pv 7) pa_nil)) pa_nil))) pa_nil))))))
      (pss_one (ps_expr (Dat.appQ (K := K) rfl (pv 8) (pa_cons (Dat.pe_tupleK (K := K) rfl rfl T.b_tuple (pv 9)) pa_nil)))))))
    (pss_cons (ps_set (i := 10) sc__law_difference.nd rfl (.inl rfl) (pe_lst pa_nil))
    (pss_cons (ps_for PassesOwn.never rfl (Dat.piL (K := K) rfl (pv 8)) (pg_name (i := 11) sc__law_difference.nd rfl (.inl rfl))
      (pss_one (ps_set (i := 10) sc__law_difference.nd rfl (.inl rfl) (pe_op op_cat (pv 10) (pe_lc (own := [("_law_weight", 12), ("_law_target", 13)]) (g := (gTup K 2 (gCons (gName 12) (gCons (gName 13) gNil)))) (tt := _) rfl sc__law_difference.nd (Dat.piT (K := K) rfl (pv 11)) (blkOk_by (N := N__law_difference) (sc := defScope s__law_difference) (by decide +kernel)) (fun _ _ _ _ _ => (Dat.pgT (K := K) (n := 2) rfl rfl (pgs_cons (pg_name (i := 12) sc__law_difference.nd rfl (Or.inl rfl)) (pgs_cons (pg_name (i := 13) sc__law_difference.nd rfl (Or.inl rfl)) pgs_nil)))) (fun _ _ _ _ _ => (pts_one (pt_cmpR op_gt (pe_callB Dat.cl_abs rfl T.b_abs bt_abs (pa_cons (pv 12) pa_nil)) (pe_op op_pow pe_int pe_int) (nomark _)))) (fun _ _ _ _ _ => (pv 12)))))))
    (pss_cons (ps_if (PW.pt (pw_or (pt_cmpR (Dat.neDQ (K := K) rfl (hu64 hr)) (pv 10) (pe_lst pa_nil) (nomark _)) (pw_or1 (pt_cmpR op_gt (pe_callB (Dat.lenQ (K := K) rfl) rfl T.b_len bt_len (pa_cons (pv 8) pa_nil)) pe_int (nomark _)))))
      (pss_one (ps_ret (pe_tup (pa_cons pe_bl (pa_cons pe_bl pa_nil)))))
      pss_nil)
    (pss_one (ps_ret (Dat.pe_tupleK (K := K) rfl rfl T.b_tuple (pv 8)))))))))))), ?_⟩
  rintro as Ω P ⟨W, V, rfl, o, o2, NB8, h⟩
  have NB : W.length * V.length ≤ 14400 := mul_le o.l2 o2.l2
  refine s_seq (s_par (a_cons (e_lstP (a_cons (e_tupD (a_cons (e_int (a_cons (e_int (a_nil ⟨_, .cons (.cons .nil), rfl, a_nil ⟨by decide, fun p np => a_cons (e_int (a_nil ⟨_, _, rfl, ?_⟩))⟩⟩))))))))))
  have np' : Ω p = none := np
  refine s_seqM (fun Γ' Ω' => ∃ (y3 y4 y5 y6 y7 : Option Av), Γ' = [some (.dat (webD W)), some (.dat (webD V)), some (.ptr p), y3, y4, y5, y6, y7, none, none, none, none, none, none] ∧ Ω' = put Ω p ((pfD (met W V)).map .dat) ∧ ∀ x ∈ (met W V).map (·.1), lens W V x = true) ?_ ?_
  · refine s_while (fun m Γ' Ω' => ∃ (F : Fo) (i : Nat) (x4 x5 x6 x7 : Option Av), m = W.length * V.length + 1 - i ∧ Γ' = [some (.dat (webD W)), some (.dat (webD V)), some (.ptr p), some (.dat (.int ((i : Nat) : Int))), x4, x5, x6, x7, none, none, none, none, none, none] ∧
      Gd F W.length V.length ∧ i ≤ F.length ∧ (∀ (k : Nat) (y : Pr × List Nat), k < i → F[k]? = some y → lens W V y.1 = true) ∧ Ω' = put Ω p ((pfD F).map .dat) ∧ bfs W V (W.length * V.length + 1 - i) F i = met W V) (W.length * V.length + 1) ?_ ?_
    · exact ⟨[((0, 0), [])], 0, _, _, _, _, rfl, rfl, gd0 o o2, Nat.zero_le _, fun k y hk _ => absurd hk (Nat.not_lt_zero _), rfl, rfl⟩
    · rintro m Γ' Ω' ⟨F, i, x4, x5, x6, x7, rfl, rfl, g, hi, hu, rfl, hb⟩
      have gl := g.len
      have pl : ((pfD F).map Av.dat).length = F.length := pF_len
      refine t_test (e_op (e_var rfl (e_cb (a_cons (e_var rfl (a_nil (c_lenP put_same (r_I0b ⟨_, rfl, fun z => ?_, fun z => ?_⟩))))))))
      · have hlt : i < F.length := by
          have := of_decide_eq_true z
          rw [pl] at this
          omega
        have ex : F[i]? = some F[i] := List.getElem?_eq_getElem hlt
        have hx := g.b _ (List.getElem_mem hlt)
        have ek : W.length * V.length + 1 - i = (W.length * V.length - i) + 1 := by omega
        rw [ek, bfs_step ex] at hb
        have tb := tgts_lt o o2 hx.1 hx.2
        have l1 := (o.nd _ (look_mem hx.1)).2
        have l2 := (o2.nd _ (look_mem hx.2)).2
        have hM : F[i].1 ∈ (met W V).map (·.1) := by
          obtain ⟨g1, G1, e1⟩ := g.addP (row := F[i].2) (j := 0) tb
          obtain ⟨_, G2, e2⟩ := bfs_gd o o2 (k := W.length * V.length - i) (i := i + 1) g1
          rw [← hb, e2, e1]
          refine List.mem_map.mpr ⟨F[i], ?_, rfl⟩
          exact List.mem_append_left _ (List.mem_append_left _ (List.getElem_mem hlt))
        refine s_seq (s_par (a_cons (e_op (e_var rfl (e_op (e_op (e_var rfl (e_var rfl (r_ixP put_same (pF_at ex) (e_int (r_ixT rfl (r_ixT (web_at hx.1) (a_cons (e_op (e_var rfl (e_op (e_op (e_var rfl (e_var rfl (r_ixP put_same (pF_at ex) (e_int (r_ixT rfl (r_ixT (web_at hx.2) (a_nil ⟨_, _, rfl, ?_⟩))))))))))))))))))))))))
        refine s_seq (s_if (t_test (e_op (e_cb (a_cons (e_var rfl (a_nil (c_lenT (e_cb (a_cons (e_var rfl (a_nil (c_lenT (r_ne rfl ⟨_, rfl, fun z => ?_, fun z => s_next ?_⟩))))))))))))))
        · have hl : lens W V F[i].1 = false := by
            unfold lens
            refine decide_eq_false fun e => ?_
            rw [List.length_map, List.length_map, e] at z
            simp [eqD] at z
          rw [difD1 (difK_one hM hl)] at h
          refine s_forget (p := p) put_same ?_
          rw [del_put np']
          exact s_ret (e_tupD (a_cons (e_bl (a_cons (e_bl (a_nil ⟨_, .cons (.cons .nil), rfl, h⟩))))))
        have hl : (look W F[i].1.1).length = (look V F[i].1.2).length := by
          rw [List.length_map, List.length_map] at z
          have : ((look W F[i].1.1).length : Int) = ((look V F[i].1.2).length : Int) := by simpa [eqD] using z
          omega
        refine s_seqM (fun Γ' Ω' => ∃ (x6 x7 : Option Av), Γ' = [some (.dat (webD W)), some (.dat (webD V)), some (.ptr p), some (.dat (.int ((i : Nat) : Int))), some (.dat (ndD (look W F[i].1.1))), some (.dat (ndD (look V F[i].1.2))), x6, x7, none, none, none, none, none, none] ∧ Ω' = put Ω p ((pfD (addP F[i].2 0 F (tgts W V F[i].1))).map .dat)) ?_ ?_
        · refine s_for (fun as j Γ' Ω' => as = rngA 0 (look W F[i].1.1).length ∧ ∃ (G : Fo) (x6 x7 : Option Av), Γ' = [some (.dat (webD W)), some (.dat (webD V)), some (.ptr p), some (.dat (.int ((i : Nat) : Int))), some (.dat (ndD (look W F[i].1.1))), some (.dat (ndD (look V F[i].1.2))), x6, x7, none, none, none, none, none, none] ∧
            Gd G W.length V.length ∧ Ω' = put Ω p ((pfD G).map .dat) ∧ addP F[i].2 j G ((tgts W V F[i].1).drop j) = addP F[i].2 0 F (tgts W V F[i].1)) ?_
          refine i_rng1 (a_cons (e_cb (a_cons (e_var rfl (a_nil (c_lenT (a_nil ⟨(((look W F[i].1.1).length : Nat) : Int), by rw [List.length_map], ⟨by omega, by omega⟩, ⟨by rw [Int.toNat_natCast], F, _, _, rfl, g, rfl, rfl⟩, ?_, ?_⟩)))))))
          · rintro j it Γ' Ω' hit ⟨-, G, x6, x7, rfl, gG, rfl, ha⟩
            rw [Int.toNat_natCast] at hit
            unfold rngA at hit
            obtain ⟨j1, et0⟩ := rng_at hit
            have et : it = .dat (.int ((j : Nat) : Int)) := by
              rw [et0]
              congr 2
              omega
            subst et
            clear et0
            have j2 : j < (look V F[i].1.2).length := by omega
            refine g_name (s_seq (s_asg (e_tupD (a_cons (e_op (e_op (e_var rfl (e_var rfl (r_ixT (at_node (List.getElem?_eq_getElem j1)) (e_int (r_ixT rfl (a_cons (e_op (e_op (e_var rfl (e_var rfl (r_ixT (at_node (List.getElem?_eq_getElem j2)) (e_int (r_ixT rfl (a_nil ⟨_, .cons (.cons .nil), rfl, ?_⟩))))))))))))))))))))
            obtain ⟨t, ht⟩ : ∃ t : Pr, t = ((look W F[i].1.1)[j].2, (look V F[i].1.2)[j].2) := ⟨_, rfl⟩
            have et : (tgts W V F[i].1)[j]? = some t := by
              unfold tgts
              have ez : (List.zip (look W F[i].1.1) (look V F[i].1.2))[j]? = some ((look W F[i].1.1)[j], (look V F[i].1.2)[j]) := List.getElem?_zip_eq_some.mpr ⟨List.getElem?_eq_getElem j1, List.getElem?_eq_getElem j2⟩
              rw [List.getElem?_map, ez, ht]
              rfl
            have hjt := (List.getElem?_eq_some_iff.mp et).1
            have hdr : (tgts W V F[i].1).drop j = t :: (tgts W V F[i].1).drop (j + 1) := by
              rw [List.drop_eq_getElem_cons hjt, (List.getElem?_eq_some_iff.mp et).2]
            rw [hdr, addP_cons] at ha
            have htb := tb t (List.mem_of_getElem? et)
            have ep : PyData.tuple [.int (((look W F[i].1.1)[j].2 : Nat) : Int), .int (((look V F[i].1.2)[j].2 : Nat) : Int)] = prD t := by
              rw [ht]
              rfl
            show SW K _ [some (.dat (webD W)), some (.dat (webD V)), some (.ptr p), some (.dat (.int ((i : Nat) : Int))), some (.dat (ndD (look W F[i].1.1))), some (.dat (ndD (look V F[i].1.2))), some (.dat (.int ((j : Nat) : Int))), some (.dat (.tuple [.int (((look W F[i].1.1)[j].2 : Nat) : Int), .int (((look V F[i].1.2)[j].2 : Nat) : Int)])), none, none, none, none, none, none] _ _
            rw [ep]
            refine s_if (t_test (e_op (e_var rfl (e_var rfl (r_ninDP put_same (pr_shaped t) (pf_shaped G) ⟨_, rfl, fun z => ?_, fun z => s_next ?_⟩)))))
            · rw [pf_any] at z
              have hn : t ∉ G.map (·.1) := by simpa using z
              rw [if_neg hn] at ha
              have gl2 := gG.len
              refine s_drop (e_app (e_var rfl ⟨p, rfl, ⟨_, put_same⟩, a_cons (e_var rfl (a_nil ⟨_, _, rfl, put_same, ?_, ?_⟩))⟩))
              · have : ((pfD G).map Av.dat).length = G.length := pF_len
                omega
              rw [put_put]
              have q1 : (pfD G).map Av.dat ++ [.dat (prD t)] = (pfD (G ++ [(t, F[i].2 ++ [j])])).map Av.dat := pF_app
              rw [q1]
              exact ⟨rfl, G ++ [(t, F[i].2 ++ [j])], _, _, rfl, gG.add htb.1 htb.2 hn, rfl, ha⟩
            · rw [pf_any] at z
              have hn : t ∈ G.map (·.1) := by simpa using z
              rw [if_pos hn] at ha
              exact ⟨rfl, G, _, _, rfl, gG, rfl, ha⟩
          · rintro Γ' Ω' ⟨-, G, x6, x7, rfl, gG, rfl, ha⟩
            have hL : (rngA 0 (((look W F[i].1.1).length : Nat) : Int).toNat).length = (look W F[i].1.1).length := by
              unfold rngA
              simp
            rw [hL] at ha
            have hd : (tgts W V F[i].1).drop (look W F[i].1.1).length = [] := by
              rw [List.drop_eq_nil_of_le]
              rw [tgts_len]
              omega
            rw [hd] at ha
            have ha' : G = addP F[i].2 0 F (tgts W V F[i].1) := ha
            exact ⟨_, _, rfl, by rw [ha']⟩
        · rintro Γ' Ω' ⟨x6, x7, rfl, rfl⟩
          obtain ⟨g1, X, e1⟩ := g.addP (row := F[i].2) (j := 0) tb
          refine s_asg (e_op (e_var rfl (e_int (r_I0i ⟨W.length * V.length + 1 - (i + 1), by omega, addP F[i].2 0 F (tgts W V F[i].1), i + 1, _, _, _, _, rfl, rfl, g1, by rw [e1, List.length_append]; omega, fun k y hk hy => ?_, rfl, ?_⟩))))
          · rw [e1, List.getElem?_append_left (by omega)] at hy
            by_cases e : k = i
            · subst e
              rw [ex] at hy
              injection hy with hy
              rw [← hy]
              exact decide_eq_true hl
            · exact hu k y (by omega) hy
          · rw [show W.length * V.length + 1 - (i + 1) = W.length * V.length - i by omega]
            exact hb
      · have he : i = F.length := by
          have := of_decide_eq_false z
          rw [pl] at this
          omega
        subst he
        rw [bfs_end] at hb
        subst hb
        refine ⟨_, _, _, _, _, rfl, rfl, fun x hx => ?_⟩
        obtain ⟨y, hy, rfl⟩ := List.mem_map.mp hx
        obtain ⟨k, hk, e⟩ := List.getElem_of_mem hy
        exact hu k y hk (by rw [← e]; exact List.getElem?_eq_getElem hk)
  rintro Γ' Ω' ⟨y3, y4, y5, y6, y7, rfl, rfl, hall0⟩
  have hall : (prs W V).all (lens W V) = true := List.all_eq_true.mpr fun x hx => hall0 x (prs_mem.mp hx)
  have near := dif_near o o2 hall
  have SL : (prs W V).length ≤ 8000 := by
    have h := (srtP_perm ((met W V).map (·.1))).length_eq
    have g := (met_gd o o2).len
    rw [List.length_map] at h
    unfold prs
    omega
  refine s_seq (s_asg (e_cb (a_cons (e_var rfl (a_nil (c_srtPF put_same (by rw [pfD_prs]; exact prD_alike _) ?_))))))
  rw [prs_D]
  refine s_forget (p := p) put_same ?_
  rw [del_put np']
  have hlt : ∀ x ∈ prs W V, x.1 < W.length ∧ x.2 < V.length := fun x hx => prs_lt o o2 hx
  have htg : ∀ x ∈ prs W V, ∀ t ∈ tgts W V x, t ∈ prs W V := fun x hx t ht => prs_mem.mpr (met_clsd o o2 (prs_mem.mp hx) t ht)
  have hln : ∀ x ∈ prs W V, (look W x.1).length = (look V x.2).length := fun x hx => of_decide_eq_true (List.all_eq_true.mp hall x hx)
  have edif : dif W V = (prs W V).map (ndL W V (prs W V)) := rfl
  have eK : difK W V = if jud (dif W V) then 0 else 2 := by
    unfold difK
    rw [hall]
    rfl
  generalize prs W V = S at *
  refine s_seq (s_asg (e_lstP (a_nil ⟨by decide, fun f nf => ?_⟩)))
  refine s_seqM (fun Γ' Ω' => ∃ (y4 y5 y6 y7 y9 : Option Av), Γ' = [some (.dat (webD W)), some (.dat (webD V)), some (.dat (.list (S.map prD))), y3, y4, y5, y6, y7, some (.ptr f), y9, none, none, none, none] ∧ Ω' = put Ω f (((S.map (ndL W V S)).map ndD).map .dat)) ?_ ?_
  · refine s_for (fun as j Γ' Ω' => as = (S.map prD).map .dat ∧ ∃ (y4 y5 y6 y7 y9 : Option Av), Γ' = [some (.dat (webD W)), some (.dat (webD V)), some (.dat (.list (S.map prD))), y3, y4, y5, y6, y7, some (.ptr f), y9, none, none, none, none] ∧ Ω' = put Ω f ((((S.take j).map (ndL W V S)).map ndD).map .dat)) ?_
    refine i_list (e_var rfl ⟨_, rfl, ⟨rfl, _, _, _, _, _, rfl, rfl⟩, ?_, ?_⟩)
    · rintro j it Γ' Ω' hit ⟨-, y4, y5, y6, y7, y9, rfl, rfl⟩
      rw [List.map_map, List.getElem?_map] at hit
      obtain ⟨x, ex, rfl⟩ := Option.map_eq_some_iff.mp hit
      have hx := List.mem_of_getElem? ex
      have hj := (List.getElem?_eq_some_iff.mp ex).1
      have el := hln x hx
      have l1 := (o.nd _ (look_mem (hlt x hx).1)).2
      have lN : (ndL W V S x).length = (look W x.1).length := by
        unfold ndL
        rw [List.length_map, List.length_zip]
        omega
      refine g_tup rfl (gs_cons (g_name ⟨rfl, gs_cons (g_name ⟨rfl, gs_nil ?_⟩)⟩))
      refine s_seq (s_asg (e_lstP (a_nil ⟨by decide, fun g ng => ?_⟩)))
      have gf : g ≠ f := fun e => by rw [e, put_same] at ng; cases ng
      rw [put_ne gf] at ng
      refine s_seqM (fun Γ' Ω' => ∃ (y6 y7 : Option Av), Γ' = [some (.dat (webD W)), some (.dat (webD V)), some (.dat (.list (S.map prD))), y3, some (.dat (.int ((x.1 : Nat) : Int))), some (.dat (.int ((x.2 : Nat) : Int))), y6, y7, some (.ptr f), some (.ptr g), none, none, none, none] ∧ Ω' = put (put Ω f ((((S.take j).map (ndL W V S)).map ndD).map .dat)) g (((ndL W V S x).map mvD).map .dat)) ?_ ?_
      · refine s_for (fun as k Γ' Ω' => as = rngA 0 (look W x.1).length ∧ ∃ (y6 y7 : Option Av), Γ' = [some (.dat (webD W)), some (.dat (webD V)), some (.dat (.list (S.map prD))), y3, some (.dat (.int ((x.1 : Nat) : Int))), some (.dat (.int ((x.2 : Nat) : Int))), y6, y7, some (.ptr f), some (.ptr g), none, none, none, none] ∧ Ω' = put (put Ω f ((((S.take j).map (ndL W V S)).map ndD).map .dat)) g ((((ndL W V S x).take k).map mvD).map .dat)) ?_
        refine i_rng1 (a_cons (e_cb (a_cons (e_op (e_var rfl (e_var rfl (r_ixT (web_at (hlt x hx).1) (a_nil (c_lenT (a_nil ⟨(((look W x.1).length : Nat) : Int), by rw [List.length_map], ⟨by omega, by omega⟩, ⟨by rw [Int.toNat_natCast], _, _, rfl, rfl⟩, ?_, ?_⟩))))))))))
        · rintro k it Γ' Ω' hit ⟨-, y6, y7, rfl, rfl⟩
          rw [Int.toNat_natCast] at hit
          unfold rngA at hit
          obtain ⟨j1, et0⟩ := rng_at hit
          have et : it = .dat (.int ((k : Nat) : Int)) := by
            rw [et0]
            congr 2
            omega
          subst et
          clear et0
          have j2 : k < (look V x.2).length := by omega
          refine g_name (s_seq (s_asg (e_tupD (a_cons (e_op (e_op (e_op (e_var rfl (e_var rfl (r_ixT (web_at (hlt x hx).1) (e_var rfl (r_ixT (at_node (List.getElem?_eq_getElem j1)) (e_int (r_ixT rfl (a_cons (e_op (e_op (e_op (e_var rfl (e_var rfl (r_ixT (web_at (hlt x hx).2) (e_var rfl (r_ixT (at_node (List.getElem?_eq_getElem j2)) (e_int (r_ixT rfl (a_nil ⟨_, .cons (.cons .nil), rfl, ?_⟩))))))))))))))))))))))))))
          obtain ⟨t, ht⟩ : ∃ t : Pr, t = ((look W x.1)[k].2, (look V x.2)[k].2) := ⟨_, rfl⟩
          have ez : (List.zip (look W x.1) (look V x.2))[k]? = some ((look W x.1)[k], (look V x.2)[k]) := List.getElem?_zip_eq_some.mpr ⟨List.getElem?_eq_getElem j1, List.getElem?_eq_getElem j2⟩
          have mt : t ∈ S := htg x hx t (by
            unfold tgts
            rw [ht]
            exact List.mem_map.mpr ⟨_, List.mem_of_getElem? ez, rfl⟩)
          have ep : PyData.tuple [.int (((look W x.1)[k].2 : Nat) : Int), .int (((look V x.2)[k].2 : Nat) : Int)] = prD t := by
            rw [ht]
            rfl
          show SW K _ [some (.dat (webD W)), some (.dat (webD V)), some (.dat (.list (S.map prD))), y3, some (.dat (.int ((x.1 : Nat) : Int))), some (.dat (.int ((x.2 : Nat) : Int))), some (.dat (.int ((k : Nat) : Int))), some (.dat (.tuple [.int (((look W x.1)[k].2 : Nat) : Int), .int (((look V x.2)[k].2 : Nat) : Int)])), some (.ptr f), some (.ptr g), none, none, none, none] _ _
          rw [ep]
          obtain ⟨i1, i2⟩ := idx_prs mt
          refine s_drop (e_app (e_var rfl ⟨g, rfl, ⟨_, put_same⟩, a_cons (e_tupD (a_cons (e_op (e_op (e_op (e_op (e_var rfl (e_var rfl (r_ixT (web_at (hlt x hx).1) (e_var rfl (r_ixT (at_node (List.getElem?_eq_getElem j1)) (e_int (r_ixT rfl (e_op (e_op (e_op (e_var rfl (e_var rfl (r_ixT (web_at (hlt x hx).2) (e_var rfl (r_ixT (at_node (List.getElem?_eq_getElem j2)) (e_int (r_ixT rfl (r_I0i ?_))))))))))))))))))))))))⟩))
          refine a_cons (e_idxDF (e_var rfl ⟨S.map prD, rfl, a_cons (e_var rfl (a_nil ⟨prD t, prD t, S.idxOf t, prs_shaped S, rfl, pr_shaped t, i1, by rw [prD_eqv]; exact decide_eq_true rfl, i2, a_nil ⟨_, .cons (.cons .nil), rfl, a_nil ⟨_, _, rfl, put_same, ?_, ?_⟩⟩⟩))⟩))
          · rw [List.length_map, List.length_map, List.length_take]
            omega
          rw [put_put]
          refine ⟨rfl, _, _, rfl, ?_⟩
          congr 1
          have en : (ndL W V S x)[k]? = some ((look W x.1)[k].1 - (look V x.2)[k].1, S.idxOf t) := by
            unfold ndL
            rw [List.getElem?_map, ez, ht]
            rfl
          rw [List.take_add_one, en, List.map_append, List.map_append]
          rfl
        · rintro Γ' Ω' ⟨-, y6, y7, rfl, rfl⟩
          refine ⟨_, _, rfl, ?_⟩
          have hL : (rngA 0 (((look W x.1).length : Nat) : Int).toNat).length = (look W x.1).length := by
            unfold rngA
            simp
          rw [hL, ← lN, List.take_length]
      rintro Γ' Ω' ⟨y6, y7, rfl, rfl⟩
      refine s_drop (e_app (e_var rfl ⟨f, rfl, ⟨_, by rw [put_ne gf.symm, put_same]⟩, a_cons (e_then (e_var rfl (r_tupP put_same ?_)))⟩))
      rw [del_put (by rw [put_ne gf]; exact ng)]
      refine a_nil ⟨_, _, rfl, put_same, ?_, rfl, _, _, _, _, _, rfl, ?_⟩
      · rw [List.length_map, List.length_map, List.length_map, List.length_take]
        omega
      rw [put_put, List.take_add_one, ex, List.map_append, List.map_append, List.map_append]
      rfl
    · rintro Γ' Ω' ⟨-, y4, y5, y6, y7, y9, rfl, rfl⟩
      refine ⟨_, _, _, _, _, rfl, ?_⟩
      rw [List.length_map, List.length_map, List.take_length]
  rintro Γ' Ω' ⟨y4, y5, y6, y7, y9, rfl, rfl⟩
  rw [← edif]
  have nf' : Ω f = none := nf
  refine s_frz (ds := (dif W V).map ndD) 8 rfl put_same ?_
  rw [del_put nf']
  have l12 : ∀ n ∈ dif W V, n.length ≤ 12 := fun n hn => (near.nd n hn).2
  have lD : (dif W V).length ≤ 8000 := by rw [edif, List.length_map]; exact SL
  refine s_seq (s_asg (e_lstD (a_nil ⟨_, .nil, rfl, ?_⟩)))
  refine s_seqM (fun Γ' Ω' => ∃ (y11 y12 y13 : Option Av), Γ' = [some (.dat (webD W)), some (.dat (webD V)), some (.dat (.list (S.map prD))), y3, y4, y5, y6, y7, some (.dat (.list ((dif W V).map ndD))), y9, some (.dat (.list (farL (dif W V)))), y11, y12, y13] ∧ Ω' = Ω) ?_ ?_
  · refine s_for (fun as j Γ' Ω' => as = ((dif W V).map ndD).map .dat ∧ ∃ (y11 y12 y13 : Option Av), Γ' = [some (.dat (webD W)), some (.dat (webD V)), some (.dat (.list (S.map prD))), y3, y4, y5, y6, y7, some (.dat (.list ((dif W V).map ndD))), y9, some (.dat (.list (farL ((dif W V).take j)))), y11, y12, y13] ∧ Ω' = Ω) ?_
    refine i_list (e_var rfl ⟨_, rfl, ⟨rfl, _, _, _, rfl, rfl⟩, ?_, ?_⟩)
    · rintro j it Γ' Ω' hit ⟨-, y11, y12, y13, rfl, rfl⟩
      rw [List.map_map, List.getElem?_map] at hit
      obtain ⟨n, en, rfl⟩ := Option.map_eq_some_iff.mp hit
      have hn := List.mem_of_getElem? en
      have hf : (farL ((dif W V).take j)).length ≤ 96000 := by
        have := farL_len (D := (dif W V).take j) fun x hx => l12 x (List.mem_of_mem_take hx)
        rw [List.length_take] at this
        omega
      refine g_name (s_asg (e_op (e_var rfl (e_lcF n (fun m => .dat (mvD m)) (fun m => !wIn m) (fun m => .int m.1) (gn_tup (gns_cons (gn_name (by decide)) (gns_cons (gn_name (by decide)) gns_nil))) (by have := l12 n hn; omega) ?_))))
      refine i_tup (e_var rfl ⟨_, rfl, by rw [List.map_map]; rfl, fun m Ω' hm _ => ?_, r_catL ?_ ⟨rfl, some (.dat (ndD n)), y12, y13, ?_, rfl⟩⟩)
      · refine g_tup rfl (gs_cons (g_name ⟨rfl, gs_cons (g_name ⟨rfl, gs_nil ⟨rfl, ?_⟩⟩)⟩))
        refine t_test (e_op (e_cb (a_cons (e_var rfl (a_nil (c_abs (e_op (e_int (e_int (r_Ii (by exact ⟨by decide, by decide, by decide⟩) (r_I0b ⟨_, rfl, rfl, ?_, fun _ => e_var rfl ⟨rfl, rfl⟩⟩)))))))))))
        have e6 : (10 ^ (6 : Int).toNat : Int) = 1000000 := by decide
        rw [e6]
        unfold wIn
        split <;> (rw [Bool.eq_iff_iff]; simp only [decide_eq_true_eq, Bool.not_eq_true', Bool.and_eq_false_iff, decide_eq_false_iff_not]; omega)
      · have h1 := List.length_filter_le (fun m => !wIn m) n
        have h2 := l12 n hn
        rw [List.length_map]
        omega
      · have e : farL ((dif W V).take (j + 1)) = farL ((dif W V).take j) ++ (n.filter fun m => !wIn m).map fun m => PyData.int m.1 := by
          rw [List.take_add_one, en]
          unfold farL
          rw [List.flatMap_append]
          simp
        rw [e]
        rfl
    · rintro Γ' Ω' ⟨-, y11, y12, y13, rfl, rfl⟩
      refine ⟨y11, y12, y13, ?_, rfl⟩
      rw [List.length_map, List.length_map, List.take_length]
  rintro Γ' Ω' ⟨y11, y12, y13, rfl, rfl⟩
  refine s_seq (s_ifB (b := !jud (dif W V)) ?_ (fun z => ?_) fun z => s_next ?_)
  · refine t_or (t_test (e_op (e_var rfl (e_lstD (a_nil ⟨_, .nil, rfl, r_neD (ints_shaped farL_ints) (ints_shaped (by intro d hd; cases hd)) ⟨_, rfl, fun z => ?_, fun z => ?_⟩⟩)))))
    · have : jud (dif W V) = false := by
        unfold jud
        cases q : ((dif W V).all fun n => n.all wIn) with
        | false => exact Bool.and_false _
        | true =>
          rw [eqv_nil, decide_eq_true (farL_nil.mpr q)] at z
          cases z
      rw [this]
      exact ⟨rfl, rfl⟩
    · refine t_test (e_op (e_cb (a_cons (e_var rfl (a_nil (c_lenL (e_int (r_I0b ⟨_, rfl, ?_, rfl⟩))))))))
      have q : ((dif W V).all fun n => n.all wIn) = true := by
        rw [← farL_nil]
        rw [eqv_nil] at z
        simpa using z
      unfold jud
      rw [q, Bool.and_true, List.length_map, Bool.eq_iff_iff]
      simp only [decide_eq_true_eq, Bool.not_eq_true', decide_eq_false_iff_not]
      omega
  · have ej : jud (dif W V) = false := by
      cases q : jud (dif W V) with
      | false => rfl
      | true => rw [q] at z; cases z
    rw [ej] at eK
    rw [difD2 eK] at h
    exact s_ret (e_tupD (a_cons (e_bl (a_cons (e_bl (a_nil ⟨_, .cons (.cons .nil), rfl, h⟩))))))
  · have ej : jud (dif W V) = true := by
      cases q : jud (dif W V) with
      | true => rfl
      | false => rw [q] at z; cases z
    rw [ej] at eK
    rw [difD0 eK] at h
    exact s_ret (e_then (e_var rfl (r_tupL h)))
end
end K05

set_option Elab.async false
set_option linter.all false
set_option maxRecDepth 100000
set_option maxHeartbeats 1000000
namespace K05
open PySem PySem.Spec PyProof.Rows L2 Dat Dkd LamX NdefX Clo
local macro_rules | `(tactic| trivial) => `(tactic| (first
  | (with_reducible refine s_seq ?_)
  | (with_reducible refine s_asg ?_)
  | (with_reducible refine s_ret ?_)
  | (with_reducible refine s_drop ?_)
  | (with_reducible refine s_next ?_)
  | (with_reducible refine s_retN ?_)
  | (with_reducible refine s_brk ?_)
  | (with_reducible refine s_cont ?_)
  | (with_reducible refine s_if ?_)
  | (with_reducible refine e_int ?_)
  | (with_reducible refine e_str ?_)
  | (with_reducible refine e_bl ?_)
  | (with_reducible refine e_non ?_)
  | (with_reducible refine e_ty ?_)
  | (with_reducible refine e_tupD ?_)
  | (with_reducible refine e_lstD ?_)
  | (with_reducible refine e_op ?_)
  | (with_reducible refine e_un ?_)
  | (with_reducible refine e_then ?_)
  | (with_reducible refine e_cb ?_)
  | (with_reducible refine e_call ?_)
  | (with_reducible refine e_if ?_)
  | (with_reducible refine e_chain ?_)
  | (with_reducible refine e_andV ?_)
  | (with_reducible refine e_orV ?_)
  | (with_reducible refine e_notV ?_)
  | (with_reducible refine a_cons ?_)
  | (with_reducible refine a_nil ?_)
  | (with_reducible refine t_test ?_)
  | (with_reducible refine t_B ?_)
  | (with_reducible refine t_not ?_)
  | (with_reducible refine t_and ?_)
  | (with_reducible refine t_or ?_)
  | (with_reducible refine r_I0i ?_)
  | (with_reducible refine r_I0b ?_)
  | (with_reducible refine r_neg ?_)
  | (with_reducible refine r_isN ?_)
  | (with_reducible refine r_notN ?_)
  | (with_reducible refine c_lenT ?_)
  | (with_reducible refine c_lenL ?_)
  | (with_reducible refine c_intI ?_)
  | (with_reducible refine c_intB ?_)
  | (with_reducible refine c_max2 ?_)
  | (with_reducible refine c_min2 ?_)
  | (with_reducible refine c_abs ?_)
  | (with_reducible refine r_tupL ?_)
  | (with_reducible refine r_tupT ?_)
  | (with_reducible refine c_allM ?_)
  | ((with_reducible apply e_var); (exact rfl))
  | ((with_reducible refine r_eq ?_ ?_); (exact rfl))
  | ((with_reducible refine r_ne ?_ ?_); (exact rfl))
  | (with_reducible refine c_isi kit_int ?_)
  | (with_reducible refine c_isi kit_bool ?_)
  | (with_reducible refine c_isi kit_tuple ?_)
  | (with_reducible refine c_isi kit_list ?_)
  | (with_reducible refine c_isi kit_str ?_)
  | ((with_reducible apply r_ixT); (exact rfl))
  | ((with_reducible apply dats_pack); (iterate 40 (first | exact Dats.nil | apply Dats.cons | skip)); (exact rfl))
  | (with_reducible refine s_asgG ?_) | (with_reducible refine g_name ?_) | ((with_reducible refine g_tup ?_ ?_); (exact rfl)) | (refine gs_nil ?_) | (refine gs_cons ?_) | (with_reducible refine ⟨rfl, ?_⟩)
  | (refine ⟨_, rfl, ?_⟩) | (refine ⟨_, _, rfl, ?_⟩) | (refine ⟨_, _, _, rfl, ?_⟩) | (with_reducible refine ⟨fun _ => ?_, fun _ => ?_⟩) | fail))
/-! ### _law_other -/
abbrev csK : Scope := { kind := .function, names := [(".0", .local), ("_law_k", .local), ("tuple", .globalImplicit), ("_law_hand_here", .cell), ("_law_many", .cell), ("_law_net", .cell)], isGenerator := false, isCoroutine := false }
abbrev csN : Scope := { kind := .function, names := [(".0", .local), ("_law_node", .local), ("tuple", .globalImplicit), ("_law_net", .cell), ("_law_order", .cell)], isGenerator := false, isCoroutine := false }
def natD (n : Nat) : PyData := .int ((n : Nat) : Int)
def NdIn (n : Nat) (nd : Nd) : Prop := (1 ≤ nd.length ∧ nd.length ≤ 12) ∧ ∀ m ∈ nd, (-1000000 ≤ m.1 ∧ m.1 ≤ 1000000) ∧ m.2 < n
theorem eras_map {α β : Type} (f : α → β) : ∀ (l : List α) (i : Nat), (l.map f).eraseIdx i = (l.eraseIdx i).map f
  | [], _ => rfl
  | x :: l, 0 => rfl
  | x :: l, i + 1 => by
    show f x :: (l.map f).eraseIdx i = f x :: (l.eraseIdx i).map f
    rw [eras_map f l i]
theorem eras_perm {α : Type} : ∀ {l : List α} {i : Nat} (h : i < l.length), (l[i] :: l.eraseIdx i).Perm l
  | x :: l, 0, _ => List.Perm.refl _
  | x :: l, i + 1, h => by
    have hi : i < l.length := by simpa using h
    have ih := eras_perm hi
    show (l[i] :: x :: l.eraseIdx i).Perm (x :: l)
    exact List.Perm.trans (List.Perm.swap _ _ _) (List.Perm.cons x ih)
theorem wok_of {V : Web} {n : Nat} (h1 : 1 ≤ n) (h2 : n ≤ 120) (l : V.length = n) (h : ∀ nd ∈ V, NdIn n nd) : WOk V :=
  ⟨by omega, by omega, fun nd m => (h nd m).1, fun nd m => by rw [l]; exact (h nd m).2⟩
def ndO (W : Web) (O : List Nat) (t : Nat) : Nd := (look W t).map fun m => (m.1, O.idxOf m.2)
theorem natD_eqv (x y : Nat) : PyData.eqv (natD x) (natD y) = decide (x = y) := by
  rw [Bool.eq_iff_iff, decide_eq_true_iff]
  simp only [natD, PyData.eqv, beq_iff_eq]
  omega
theorem idxN_cons {a t : Nat} {S : List Nat} : (a :: S).idxOf t = if a = t then 0 else S.idxOf t + 1 := by
  rw [List.idxOf_cons]
  by_cases e : a = t
  · have hb : (a == t) = true := beq_iff_eq.mpr e
    rw [hb, if_pos e]
    rfl
  · have hb : (a == t) = false := beq_eq_false_iff_ne.mpr e
    rw [hb, if_neg e]
    rfl
theorem idxN_first : ∀ {S : List Nat} {t : Nat} {m : Nat}, m < S.idxOf t → S[m]? = some t → False
  | [], _, _, _, e => by simp at e
  | a :: S, t, m, h, e => by
    rw [idxN_cons] at h
    by_cases q : a = t
    · rw [if_pos q] at h
      omega
    · rw [if_neg q] at h
      cases m with
      | zero =>
        rw [List.getElem?_cons_zero] at e
        injection e with e
        exact q e
      | succ m =>
        rw [List.getElem?_cons_succ] at e
        exact idxN_first (by omega) e
theorem idx_nat {S : List Nat} {t : Nat} (h : t ∈ S) : (S.map natD)[S.idxOf t]? = some (natD t) ∧ ∀ m e, m < S.idxOf t → (S.map natD)[m]? = some e → PyData.eqv e (natD t) = false := by
  have hl := List.idxOf_lt_length_of_mem h
  refine ⟨?_, fun m e hm he => ?_⟩
  · rw [List.getElem?_map, List.getElem?_eq_getElem hl, List.getElem_idxOf hl]
    rfl
  · rw [List.getElem?_map] at he
    obtain ⟨x, hx, rfl⟩ := Option.map_eq_some_iff.mp he
    rw [natD_eqv]
    refine decide_eq_false fun q => ?_
    subst q
    exact idxN_first hm hx
theorem nd_last {n : Nd} (h : 1 ≤ n.length) : ∃ ini m, n = ini ++ [m] := by
  rcases List.eq_nil_or_concat n with rfl | ⟨ini, m, rfl⟩
  · cases h
  · exact ⟨ini, m, List.concat_eq_append ..⟩
theorem at_last {l : List PyData} {x : PyData} : atI (l ++ [x]) (-1 : Int) = some x := by
  unfold atI ixN
  rw [if_neg (by decide), if_pos (by rw [List.length_append, List.length_singleton]; omega)]
  show (l ++ [x])[((-1 : Int) + ((l ++ [x]).length : Nat)).toNat]? = some x
  rw [List.length_append, List.length_singleton, show ((-1 : Int) + ((l.length + 1 : Nat) : Int)).toNat = l.length by omega, List.getElem?_append_right (Nat.le_refl _)]
  simp
theorem cut_ini {l : List PyData} {x : PyData} : Dat.cutD (l ++ [x]) none (some (-1 : Int)) = l := by
  unfold Dat.cutD HT.sIx
  show ((l ++ [x]).drop 0).take ((if (-1 : Int) < 0 then ((-1 : Int) + ((l ++ [x]).length : Nat)).toNat else _) - 0) = _
  rw [if_pos (by decide), List.drop_zero, List.length_append, show ((-1 : Int) + ((l.length + [x].length : Nat) : Int)).toNat = l.length by show ((-1 : Int) + ((l.length + 1 : Nat) : Int)).toNat = _; omega, Nat.sub_zero, List.take_left]
section
variable {P : Program} {w : World} {K : PySem.W.Frag} [Tb K] {mg : Str → Option Value} {base : Heap}
abbrev spOther : ASp := fun as Ω P => ∃ (Ω0 : AH) (p : Addr) (W : Web) (ns : List Int) (i : Nat) (a s c : Int), as = [.ptr p, .dat (webD W)] ∧ Ω = put Ω0 p (handL ns i a s c) ∧ Ω0 p = none ∧ SOk s ∧ WOk W ∧ W.length ≤ 8 ∧
  ∀ V i' a' s' c', SOk s' → WOk V → V.length ≤ 16 → P (.dat (webD V)) (put Ω0 p (handL ns i' a' s' c'))
set_option maxHeartbeats 4000000 in
theorem ok_law_other (T : Top P K mg) : FnOk P w K mg base CX0 4 T.f__law_other T.d__law_other ["_law_hand_here", "_law_net"] (spA K spOther) := by
  have G__law_draw : FnOk P w K mg base CX0 2 T.f__law_draw T.d__law_draw ["_law_hand_here", "_law_size"] (spA K spDraw) := ok_draw T
  have G__law_web : FnOk P w K mg base CX0 3 T.f__law_web T.d__law_web ["_law_hand_here", "_law_most"] (spA K spLWeb) := ok_law_web T
  refine fnA_ok T.D__law_other.F sc__law_other (fun as Ω P ⟨Ω0, p, W, ns, i, a, s, c, e, _⟩ => by subst e; rfl) (fun cdv A outer s H E hr => ?_)
  refine ⟨_, (pss_cons (ps_set (i := 2) sc__law_other.nd rfl (.inl rfl) (pe_call G__law_draw (hr.mono (by omega)) rfl T.D__law_draw.g T.D__law_draw.F.kp T.D__law_draw.b .nil pass0 (pa_cons (pv 0) (pa_cons pe_int pa_nil))))
    (pss_cons (ps_set (i := 3) sc__law_other.nd rfl (.inr rfl) (pe_callB (Dat.lenQ (K := K) rfl) rfl T.b_len bt_len (pa_cons (pv 1) pa_nil)))
    (pss_cons (ps_if (pt_cmpR op_eq (pv 2) pe_int (nomark _))
      (pss_one (ps_ret (pe_call G__law_web (hr.mono (by omega)) rfl T.D__law_web.g T.D__law_web.F.kp T.D__law_web.b .nil pass0 (pa_cons (pv 0) (pa_cons pe_int pa_nil)))))
      pss_nil)
    (pss_cons (ps_if (pt_cmpR op_eq (pv 2) pe_int (nomark _))
      (pss_cons (ps_setLc (i := 4) (own := [("_law_k", 7)]) (g := (gName 7)) (tt := tYes) rfl sc__law_other.nd rfl rfl (sw_true rfl rfl rfl (by decide +kernel)) (pi_range1 rfl T.b_range (pa_cons (pe_op op_mul pe_int (pv 3)) pa_nil)) (blkOk_by (N := N__law_other) (sc := defScope s__law_other) (by decide +kernel)) (fun _ _ _ _ _ => (pg_name (i := 7) sc__law_other.nd rfl (Or.inl rfl))) (fun _ _ _ _ _ => pts_nil) (fun _ _ _ _ _ => (Dat.pe_tupleK (K := K) rfl rfl T.b_tuple (pe_lc (own := [("_law_weight", 5), ("_law_target", 6)]) (g := (gTup K 2 (gCons (gName 5) (gCons (gName 6) gNil)))) (tt := tYes) rfl sc__law_other.nd (Dat.piT (K := K) rfl (pe_ix (Dat.ixT (K := K) rfl) (pv 1) (pe_op op_mod (pv 7) (pv 3)) (fun _ _ => rfl))) (blkOk_by (N := N__law_other) (sc := csK) (by decide +kernel)) (fun _ _ _ _ _ => (Dat.pgT (K := K) (n := 2) rfl rfl (pgs_cons (pg_name (i := 5) sc__law_other.nd rfl (Or.inl rfl)) (pgs_cons (pg_name (i := 6) sc__law_other.nd rfl (Or.inl rfl)) pgs_nil)))) (fun _ _ _ _ _ => pts_nil) (fun _ _ _ _ _ => (pe_tup (pa_cons (pv 5) (pa_cons (pe_op op_add (pv 6) (pe_op op_mul (pv 3) (pe_call G__law_draw (hr.mono (by omega)) rfl T.D__law_draw.g T.D__law_draw.F.kp T.D__law_draw.b .nil pass0 (pa_cons (pv 0) (pa_cons pe_int pa_nil))))) pa_nil))))))))
      (pss_one (ps_ret (Dat.pe_tupleK (K := K) rfl rfl T.b_tuple (pv 4)))))
      pss_nil)
    (pss_cons (ps_set (i := 8) sc__law_other.nd rfl (.inr rfl) (pe_listRg rfl rfl T.b_list (prg_2 rfl T.b_range pe_int (pv 3))))
    (pss_cons (ps_set (i := 9) sc__law_other.nd rfl (.inr rfl) (pe_op op_cat (pe_lst (pa_cons pe_int pa_nil)) (pe_lc (own := [("_law_k", 7)]) (g := (gName 7)) (tt := tYes) rfl sc__law_other.nd (pi_range1 rfl T.b_range (pa_cons (pe_op op_sub (pv 3) pe_int) pa_nil)) (blkOk_by (N := N__law_other) (sc := defScope s__law_other) (by decide +kernel)) (fun _ _ _ _ _ => (pg_name (i := 7) sc__law_other.nd rfl (Or.inl rfl))) (fun _ _ _ _ _ => pts_nil) (fun _ _ _ _ _ => (Dat.popQ (K := K) rfl (pv 8) (pa_cons (pe_call G__law_draw (hr.mono (by omega)) rfl T.D__law_draw.g T.D__law_draw.F.kp T.D__law_draw.b .nil pass0 (pa_cons (pv 0) (pa_cons (pe_callB (Dat.lenQ (K := K) rfl) rfl T.b_len bt_len (pa_cons (pv 8) pa_nil)) pa_nil))) pa_nil))))))
    (pss_cons (ps_setLc (i := 10) (own := [("_law_node", 11)]) (g := (gName 11)) (tt := tYes) rfl sc__law_other.nd rfl rfl (sw_true rfl rfl rfl (by decide +kernel)) (Dat.piL (K := K) rfl (pv 9)) (blkOk_by (N := N__law_other) (sc := defScope s__law_other) (by decide +kernel)) (fun _ _ _ _ _ => (pg_name (i := 11) sc__law_other.nd rfl (Or.inl rfl))) (fun _ _ _ _ _ => pts_nil) (fun _ _ _ _ _ => (Dat.pe_tupleK (K := K) rfl rfl T.b_tuple (pe_lc (own := [("_law_weight", 5), ("_law_target", 6)]) (g := (gTup K 2 (gCons (gName 5) (gCons (gName 6) gNil)))) (tt := tYes) rfl sc__law_other.nd (Dat.piT (K := K) rfl (pe_ix (Dat.ixT (K := K) rfl) (pv 1) (pv 11) (fun _ _ => rfl))) (blkOk_by (N := N__law_other) (sc := csN) (by decide +kernel)) (fun _ _ _ _ _ => (Dat.pgT (K := K) (n := 2) rfl rfl (pgs_cons (pg_name (i := 5) sc__law_other.nd rfl (Or.inl rfl)) (pgs_cons (pg_name (i := 6) sc__law_other.nd rfl (Or.inl rfl)) pgs_nil)))) (fun _ _ _ _ _ => pts_nil) (fun _ _ _ _ _ => (pe_tup (pa_cons (pv 5) (pa_cons (Dat.idxQ (K := K) rfl (by exact hu100 hr) (pv 9) (pa_cons (pv 6) pa_nil)) pa_nil))))))))
    (pss_cons (ps_set (i := 12) sc__law_other.nd rfl (.inl rfl) (pe_call G__law_draw (hr.mono (by omega)) rfl T.D__law_draw.g T.D__law_draw.F.kp T.D__law_draw.b .nil pass0 (pa_cons (pv 0) (pa_cons (pv 3) pa_nil))))
    (pss_cons (ps_set (i := 13) sc__law_other.nd rfl (.inl rfl) (pe_ix (Dat.ixT (K := K) rfl) (pe_ix (Dat.ixL (K := K) rfl) (pv 10) (pv 12) (fun _ _ => rfl)) (pe_un un_neg pe_int) (fun _ _ => rfl)))
    (pss_cons (ps_if (pt_cmpR op_eq (pv 2) pe_int (nomark _))
      (pss_one (ps_asg (pe_op (Dat.catT (K := K) rfl) (pe_slice (Dat.slT (K := K) rfl) (pe_ix (Dat.ixL (K := K) rfl) (pv 10) (pv 12) (fun _ _ => rfl)) po_none (po_some (pe_un un_neg pe_int))) (pe_tup (pa_cons (pe_tup (pa_cons (pe_callB (Dat.cl_max2 rfl) rfl T.b_max bt_max (pa_cons (pe_un un_neg (pe_op op_pow pe_int pe_int)) (pa_cons (pe_op op_sub (pe_ix (Dat.ixT (K := K) rfl) (pv 13) pe_int (fun _ _ => rfl)) pe_int) pa_nil))) (pa_cons (pe_ix (Dat.ixT (K := K) rfl) (pv 13) pe_int (fun _ _ => rfl)) pa_nil))) pa_nil))) (pg_sub (pv 10) (pv 12) set_list)))
      pss_nil)
    (pss_cons (ps_if (pt_cmpR op_eq (pv 2) pe_int (nomark _))
      (pss_one (ps_asg (pe_op (Dat.catT (K := K) rfl) (pe_slice (Dat.slT (K := K) rfl) (pe_ix (Dat.ixL (K := K) rfl) (pv 10) (pv 12) (fun _ _ => rfl)) po_none (po_some (pe_un un_neg pe_int))) (pe_tup (pa_cons (pe_tup (pa_cons (pe_ix (Dat.ixT (K := K) rfl) (pv 13) pe_int (fun _ _ => rfl)) (pa_cons (pe_call G__law_draw (hr.mono (by omega)) rfl T.D__law_draw.g T.D__law_draw.F.kp T.D__law_draw.b .nil pass0 (pa_cons (pv 0) (pa_cons (pv 3) pa_nil))) pa_nil))) pa_nil))) (pg_sub (pv 10) (pv 12) set_list)))
      pss_nil)
    (pss_cons (ps_if (PW.pt (pw_and (pt_cmpR op_eq (pv 2) pe_int (nomark _)) (pw_and1 (pt_cmpR op_lt (pe_callB (Dat.lenQ (K := K) rfl) rfl T.b_len bt_len (pa_cons (pe_ix (Dat.ixL (K := K) rfl) (pv 10) (pv 12) (fun _ _ => rfl)) pa_nil)) pe_int (nomark _)))))
      (pss_one (ps_asg (pe_op (Dat.catT (K := K) rfl) (pe_ix (Dat.ixL (K := K) rfl) (pv 10) (pv 12) (fun _ _ => rfl)) (pe_tup (pa_cons (pv 13) pa_nil))) (pg_sub (pv 10) (pv 12) set_list)))
      pss_nil)
    (pss_one (ps_ret (Dat.pe_tupleK (K := K) rfl rfl T.b_tuple (pv 10)))))))))))))))), ?_⟩
  rintro as Ω P ⟨Ω0, p, W, ns, i, a, s, c, rfl, rfl, p0, hs, o, lW, h⟩
  have l1 := o.l1
  refine s_seq (s_asg (e_drawN rfl hs (by decide) (by decide) fun v i a s c hs v0 v1 => ?_))
  refine s_seq (s_asg (e_cb (a_cons (e_var rfl (a_nil (c_lenT ?_))))))
  rw [List.length_map]
  refine s_seq (s_if (t_test (e_op (e_var rfl (e_int (r_eq rfl ⟨_, rfl, fun z => ?_, fun z => s_next ?_⟩))))))
  · exact s_ret (e_call (a_cons (e_var rfl (a_cons (e_int (a_nil ⟨Ω0, p, 6, ns, i, a, s, c, rfl, rfl, p0, hs, by decide, by decide, fun V i a s c hs oV lV => h V i a s c hs oV (by omega)⟩))))))
  refine s_seq (s_if (t_test (e_op (e_var rfl (e_int (r_eq rfl ⟨_, rfl, fun z => ?_, fun z => s_next ?_⟩))))))
  · have e2n : (2 * ((W.length : Nat) : Int)).toNat = 2 * W.length := by omega
    refine s_seq (s_asg (e_lc (gn_name (by decide)) (fun D as i acc Ω' => as = rngA 0 (2 * W.length) ∧ Ω0 D = none ∧ D ≠ p ∧ ∃ (X : Web) (i' : Nat) (a s c : Int), SOk s ∧ acc = (X.map ndD).map .dat ∧ X.length = i ∧ (∀ nd ∈ X, NdIn (2 * W.length) nd) ∧ Ω' = put (put Ω0 D acc) p (handL ns i' a s c)) ?_))
    refine i_rng1 (a_cons (e_op (e_int (e_var rfl (r_Ii (by exact .inl ⟨by decide, by decide⟩) (a_nil ⟨2 * ((W.length : Nat) : Int), rfl, ⟨by omega, by omega⟩, ?_, fun D nD => ⟨?_, fun i x acc Ω' ex hM => ?_, fun acc Ω' hM => ?_⟩⟩))))))
    · rw [e2n]
      unfold rngA
      rw [List.length_map, List.length_range]
      omega
    · have ne : D ≠ p := fun e => by rw [e, put_same] at nD; cases nD
      rw [put_ne ne] at nD
      exact ⟨by rw [e2n], nD, ne, [], i, a, s, c, hs, rfl, rfl, nofun, Dat.put_comm ne.symm⟩
    · obtain ⟨-, nD, ne, X, i', a, s, c, hs, rfl, lX, oX, rfl⟩ := hM
      rw [e2n] at ex
      unfold rngA at ex
      obtain ⟨hi, rfl⟩ := rng_at ex
      have hk : i % W.length < W.length := Nat.mod_lt _ (by omega)
      refine ⟨by rw [put_ne ne, put_same], by rw [List.length_map, List.length_map]; omega, g_name (t_yes ⟨fun _ => ?_, nofun⟩)⟩
      have hnd := o.nd _ (look_mem hk)
      have hmv := o.mv _ (look_mem hk)
      refine e_then (e_lc (gn_tup (gns_cons (gn_name (by decide)) (gns_cons (gn_name (by decide)) gns_nil))) (fun D2 as2 j acc2 Ω'' => as2 = ((look W (i % W.length)).map mvD).map .dat ∧ Ω0 D2 = none ∧ D2 ≠ p ∧ D2 ≠ D ∧ ∃ (nd : Nd) (i' : Nat) (a s c : Int), SOk s ∧ acc2 = (nd.map mvD).map .dat ∧ nd.length = j ∧ (∀ m ∈ nd, (-1000000 ≤ m.1 ∧ m.1 ≤ 1000000) ∧ m.2 < 2 * W.length) ∧ Ω'' = put (put (put Ω0 D ((X.map ndD).map .dat)) D2 acc2) p (handL ns i' a s c)) ?_)
      have eix : atI (W.map ndD) ((0 + (i : Int)) % ((W.length : Nat) : Int)) = some (ndD (look W (i % W.length))) := by
        have e : (0 + (i : Int)) % ((W.length : Nat) : Int) = ((i % W.length : Nat) : Int) := by
          rw [Int.zero_add]
          exact (Int.natCast_emod i W.length).symm
        rw [e]
        exact web_at hk
      refine i_tup (e_op (e_var rfl (e_op (e_var rfl (e_var rfl (r_Ii (by show (0 : Int) < ((W.length : Nat) : Int); omega) (r_ixT eix ⟨_, rfl, ⟨by rw [List.length_map, List.length_map]; omega, fun D2 nD2 => ⟨?_, fun j y acc2 Ω'' ey hM2 => ?_, fun acc2 Ω'' hM2 => ?_⟩⟩⟩)))))))
      · have np2 : D2 ≠ p := fun e => by rw [e, put_same] at nD2; cases nD2
        rw [put_ne np2] at nD2
        have nd2 : D2 ≠ D := fun e => by rw [e, put_same] at nD2; cases nD2
        rw [put_ne nd2] at nD2
        exact ⟨rfl, nD2, np2, nd2, [], i', a, s, c, hs, rfl, rfl, nofun, Dat.put_comm np2.symm⟩
      · obtain ⟨-, n2, np2, nd2, nd, i', a, s, c, hs, rfl, lnd, ond, rfl⟩ := hM2
        rw [List.map_map, List.getElem?_map] at ey
        obtain ⟨m, em, rfl⟩ := Option.map_eq_some_iff.mp ey
        have hm := hmv m (List.mem_of_getElem? em)
        have hj := (List.getElem?_eq_some_iff.mp em).1
        refine ⟨by rw [put_ne np2, put_same], by rw [List.length_map, List.length_map]; omega, g_tup rfl (gs_cons (g_name ⟨rfl, gs_cons (g_name ⟨rfl, gs_nil (t_yes ⟨fun _ => ?_, nofun⟩)⟩)⟩))⟩
        refine e_tupD (a_cons (e_var rfl (a_cons (e_op (e_var rfl (e_op (e_var rfl (e_drawN rfl hs (by decide) (by decide) fun t i a s c hs t0 t1 => r_Ii (by exact .inl ⟨by omega, by omega⟩) (r_I0i (a_nil ⟨_, .cons (.cons .nil), rfl, ?_⟩))))))))))
        refine ⟨by rw [put_ne np2, put_same], rfl, n2, np2, nd2, nd ++ [(m.1, m.2 + W.length * t.toNat)], i, a, s, c, hs, ?_, by simp [lnd], fun q hq => ?_, ?_⟩
        · rw [List.map_append, List.map_append]
          congr 1
          show [Av.dat (.tuple [.int m.1, .int (((m.2 : Nat) : Int) + ((W.length : Nat) : Int) * t)])] = [Av.dat (.tuple [.int m.1, .int ((m.2 + W.length * t.toNat : Nat) : Int)])]
          rw [Int.natCast_add, Int.natCast_mul, Int.toNat_of_nonneg t0]
        · rcases List.mem_append.mp hq with hq | hq
          · exact ond q hq
          · rw [List.mem_singleton.mp hq]
            refine ⟨hm.1, ?_⟩
            show m.2 + W.length * t.toNat < 2 * W.length
            have : t.toNat ≤ 1 := by omega
            have := Nat.mul_le_mul_left W.length this
            omega
        · rw [Dat.put_comm np2.symm, put_put]
      · obtain ⟨-, n2, np2, nd2, nd, i', a, s, c, hs, rfl, lnd, ond, rfl⟩ := hM2
        refine r_tupP (ds := nd.map mvD) (by rw [put_ne np2, put_same]) ?_
        rw [Dat.put_comm np2, del_put (by rw [put_ne np2, put_ne nd2]; exact n2)]
        rw [List.length_map, List.length_map] at lnd
        refine ⟨by rw [put_ne ne, put_same], by rw [e2n], nD, ne, X ++ [nd], i', a, s, c, hs, ?_, by simp [lX], fun q hq => ?_, ?_⟩
        · rw [List.map_append, List.map_append]
          rfl
        · rcases List.mem_append.mp hq with hq | hq
          · exact oX q hq
          · rw [List.mem_singleton.mp hq]
            exact ⟨⟨by omega, by omega⟩, ond⟩
        · rw [Dat.put_comm ne.symm, put_put]
    · obtain ⟨-, nD, ne, X, i', a, s, c, hs, rfl, lX, oX, rfl⟩ := hM
      rw [e2n] at lX
      have lX' : X.length = 2 * W.length := by
        rw [lX]
        unfold rngA
        simp
      refine s_ret (e_then (e_var rfl (r_tupP (ds := X.map ndD) (by rw [put_ne ne, put_same]) ?_)))
      rw [Dat.put_comm ne, del_put (by rw [put_ne ne]; exact nD)]
      exact h X i' a s c hs (wok_of (n := 2 * W.length) (by omega) (by omega) lX' oX) (by omega)
  -- the nodes in another sequence
  refine s_seq (s_asg (e_lstRg (rg_2 (e_int (e_var rfl ⟨1, ((W.length : Nat) : Int), rfl, rfl, RgOk.of_le (by omega) (by omega) (by omega) (by omega), fun nm onm => ?_⟩)))))
  have nmp : nm ≠ p := fun e => by
    have := onm.1
    rw [e] at this
    have q : (put Ω0 p (handL ns i a s c)).l p = some _ := put_same
    rw [q] at this
    cases this
  have nm0 : Ω0 nm = none := by
    have := onm.1
    have q : (put Ω0 p (handL ns i a s c)).l nm = Ω0 nm := put_ne nmp
    rw [q] at this
    exact this
  have erg : (rgD 1 ((W.length : Nat) : Int)).map Av.dat = ((List.range' 1 (W.length - 1)).map natD).map .dat := by
    have e : rgD 1 ((W.length : Nat) : Int) = (List.range' 1 (W.length - 1)).map natD := by
      unfold rgD
      rw [show (((W.length : Nat) : Int) - 1).toNat = W.length - 1 by omega, List.range'_eq_map_range, List.map_map]
      refine List.map_congr_left fun k hk => ?_
      show PyData.int (1 + ((k : Nat) : Int)) = .int ((1 + k : Nat) : Int)
      rw [Int.natCast_add]
      rfl
    rw [e]
  rw [erg, Dat.put_comm nmp.symm]
  refine s_seq (s_asg (e_op (e_lstD (a_cons (e_int (a_nil ⟨_, .cons .nil, rfl, EW.frz ?_⟩))))))
  refine e_lc (gn_name (by decide)) (fun D as i acc Ω' => as = rngA 0 (W.length - 1) ∧ Ω0 D = none ∧ D ≠ p ∧ D ≠ nm ∧ ∃ (X Y : List Nat) (i' : Nat) (a s c : Int), SOk s ∧ acc = (X.map natD).map .dat ∧ X.length = i ∧ (X ++ Y).Perm (List.range' 1 (W.length - 1)) ∧ Ω' = put (put (put Ω0 nm ((Y.map natD).map .dat)) D acc) p (handL ns i' a s c)) ?_
  have e1n : (((W.length : Nat) : Int) - 1).toNat = W.length - 1 := by omega
  refine i_rng1 (a_cons (e_op (e_var rfl (e_int (r_I0i (a_nil ⟨((W.length : Nat) : Int) - 1, rfl, ⟨by omega, by omega⟩, ?_, fun D nD => ⟨?_, fun j x acc Ω' ex hM => ?_, fun acc Ω' hM => ?_⟩⟩))))))
  · rw [e1n]
    unfold rngA
    rw [List.length_map, List.length_range]
    omega
  · have np : D ≠ p := fun e => by rw [e, put_same] at nD; cases nD
    rw [put_ne np] at nD
    have nn : D ≠ nm := fun e => by rw [e, put_same] at nD; cases nD
    rw [put_ne nn] at nD
    exact ⟨by rw [e1n], nD, np, nn, [], List.range' 1 (W.length - 1), i, a, s, c, hs, rfl, rfl, List.Perm.refl _, Dat.put_comm np.symm⟩
  · obtain ⟨-, nD, np, nn, X, Y, i', a, s, c, hs, rfl, lX, pm, rfl⟩ := hM
    rw [e1n] at ex
    unfold rngA at ex
    obtain ⟨hj, rfl⟩ := rng_at ex
    have lXY : X.length + Y.length = W.length - 1 := by
      have := pm.length_eq
      rw [List.length_append, List.length_range'] at this
      exact this
    have gY : ∀ A B, (put (put (put Ω0 nm A) D B) p (handL ns i' a s c)) nm = some A := fun A B => by rw [put_ne nmp, put_ne nn.symm, put_same]
    refine ⟨by rw [put_ne np, put_same], by rw [List.length_map, List.length_map]; omega, g_name (t_yes ⟨fun _ => ?_, nofun⟩)⟩
    refine e_popAt (e_var rfl ⟨nm, rfl, ⟨_, gY _ _⟩, ?_⟩)
    refine a_cons (e_draw rfl (e_cb (a_cons (e_var rfl (a_nil (c_lenP (gY _ _) ⟨((Y.length : Nat) : Int), i', a, s, c, ?_, rfl, hs, by omega, by omega, fun v i a s c hs v0 v1 => ?_⟩))))))
    · rw [List.length_map, List.length_map]
    obtain ⟨k, rfl⟩ := Int.eq_ofNat_of_zero_le v0
    have hk : k < Y.length := by omega
    refine a_nil ⟨k, .dat (natD Y[k]), _, rfl, by rw [put_ne nmp, put_ne nn.symm, put_same], ?_, by omega, ?_⟩
    · rw [List.map_map, List.getElem?_map, List.getElem?_eq_getElem hk]
      rfl
    have e2 : put (put (put (put Ω0 nm ((Y.map natD).map .dat)) D ((X.map natD).map .dat)) p (handL ns i a s c)) nm (((Y.map natD).map Av.dat).eraseIdx k) = put (put (put Ω0 nm (((Y.eraseIdx k).map natD).map .dat)) D ((X.map natD).map .dat)) p (handL ns i a s c) := by
      rw [Dat.put_comm nmp.symm, Dat.put_comm nn, put_put, eras_map, eras_map]
    rw [e2]
    refine ⟨by rw [put_ne np, put_same], by rw [e1n], nD, np, nn, X ++ [Y[k]], Y.eraseIdx k, i, a, s, c, hs, ?_, by simp [lX], ?_, ?_⟩
    · rw [List.map_append, List.map_append]
      rfl
    · rw [List.append_assoc]
      refine List.Perm.trans (List.Perm.append_left X ?_) pm
      exact eras_perm hk
    · rw [Dat.put_comm np.symm, put_put]
  obtain ⟨-, nD, np, nn, X, Y, i', a, s, c, hs, rfl, lX, pm, rfl⟩ := hM
  have lX' : X.length = W.length - 1 := by
    rw [lX, e1n]
    unfold rngA
    simp
  have eY : Y = [] := by
    have := pm.length_eq
    rw [List.length_append, List.length_range'] at this
    exact List.length_eq_zero_iff.mp (by omega)
  subst eY
  rw [List.append_nil] at pm
  refine ⟨D, X.map natD, rfl, by rw [put_ne np, put_same], ?_⟩
  rw [Dat.put_comm np, del_put (by rw [put_ne np, put_ne nn]; exact nD)]
  refine r_catL (by rw [List.length_map, List.length_singleton]; omega) ?_
  have pO : (0 :: X).Perm (List.range W.length) := by
    have e : List.range W.length = 0 :: List.range' 1 (W.length - 1) := by
      rw [List.range_eq_range', show W.length = (W.length - 1) + 1 by omega, List.range'_succ]
      simp
    rw [e]
    exact List.Perm.cons 0 pm
  have eO : PyData.int 0 :: X.map natD = (0 :: X).map natD := rfl
  show SW K _ _ _ _
  rw [show ([PyData.int 0] ++ X.map natD) = (0 :: X).map natD from eO]
  have lO : (0 :: X).length = W.length := by rw [List.length_cons]; omega
  generalize (0 :: X) = O at pO lO
  have mO : ∀ t, t < W.length → t ∈ O := fun t ht => pO.mem_iff.mpr (List.mem_range.mpr ht)
  have bO : ∀ t ∈ O, t < W.length := fun t ht => List.mem_range.mp (pO.mem_iff.mp ht)
  clear pO pm lX lX' eO
  refine s_forget (ds := List.map natD []) (p := nm) (by rw [put_ne nmp, put_same]) ?_
  rw [Dat.put_comm nmp, del_put (by rw [put_ne nmp]; exact nm0)]
  clear nD np nn
  -- the nodes named anew
  refine s_seq (s_asg (e_lc (gn_name (by decide)) (fun D as i acc Ω' => as = (O.map natD).map .dat ∧ Ω0 D = none ∧ D ≠ p ∧ acc = (((O.take i).map (ndO W O)).map ndD).map .dat ∧ Ω' = put (put Ω0 p (handL ns i' a s c)) D acc) ?_))
  refine i_list (e_var rfl ⟨_, rfl, ⟨by rw [List.length_map, List.length_map]; omega, fun D nD => ⟨?_, fun j x acc Ω' ex hM => ?_, fun acc Ω' hM => ?_⟩⟩⟩)
  · have np : D ≠ p := fun e => by rw [e, put_same] at nD; cases nD
    rw [put_ne np] at nD
    exact ⟨rfl, nD, np, rfl, rfl⟩
  · obtain ⟨-, nD, np, rfl, rfl⟩ := hM
    rw [List.map_map, List.getElem?_map] at ex
    obtain ⟨t, et, rfl⟩ := Option.map_eq_some_iff.mp ex
    have ht := bO t (List.mem_of_getElem? et)
    have hj := (List.getElem?_eq_some_iff.mp et).1
    have hnd := o.nd _ (look_mem ht)
    have hmv := o.mv _ (look_mem ht)
    refine ⟨put_same, by rw [List.length_map, List.length_map, List.length_map, List.length_take]; omega, g_name (t_yes ⟨fun _ => ?_, nofun⟩)⟩
    refine e_then (e_lcM (look W t) (fun m => .dat (mvD m)) (fun m => mvD (m.1, O.idxOf m.2)) (gn_tup (gns_cons (gn_name (by decide)) (gns_cons (gn_name (by decide)) gns_nil))) (by omega) ?_)
    refine i_tup (e_op (e_var rfl (e_var rfl (r_ixT (web_at ht) ⟨_, rfl, by rw [List.map_map]; rfl, fun m Ω' hm _ => ?_, r_tupL ⟨put_same, rfl, nD, np, ?_, ?_⟩⟩))))
    · refine g_tup rfl (gs_cons (g_name ⟨rfl, gs_cons (g_name ⟨rfl, gs_nil ⟨rfl, ?_⟩⟩)⟩))
      obtain ⟨i1, i2⟩ := idx_nat (mO m.2 (hmv m hm).2)
      exact e_tupD (a_cons (e_var rfl (a_cons (e_idxDF (e_var rfl ⟨O.map natD, rfl, a_cons (e_var rfl (a_nil ⟨natD m.2, natD m.2, O.idxOf m.2, ints_shaped (fun d hd => by obtain ⟨k, _, rfl⟩ := List.mem_map.mp hd; exact ⟨_, rfl⟩), rfl, rfl, i1, by rw [natD_eqv]; exact decide_eq_true rfl, i2, a_nil ⟨_, .cons (.cons .nil), rfl, rfl, rfl⟩⟩))⟩)))))
    · rw [List.take_add_one, et, List.map_append, List.map_append, List.map_append]
      have e : ndD (ndO W O t) = .tuple ((look W t).map fun m => mvD (m.1, O.idxOf m.2)) := by
        unfold ndD ndO
        rw [List.map_map]
        rfl
      rw [← e]
      rfl
    · rw [put_put]
  obtain ⟨-, nD, np, rfl, rfl⟩ := hM
  have eT : (((O.take ((O.map natD).map Av.dat).length).map (ndO W O)).map ndD).map Av.dat = ((O.map (ndO W O)).map ndD).map .dat := by rw [List.length_map, List.length_map, List.take_length]
  rw [eT, Dat.put_comm np.symm]
  clear eT
  have lV : (O.map (ndO W O)).length = W.length := by rw [List.length_map]; exact lO
  have oV : ∀ nd ∈ O.map (ndO W O), NdIn W.length nd := fun nd hnd => by
    obtain ⟨t, ht, rfl⟩ := List.mem_map.mp hnd
    have h1 := o.nd _ (look_mem (bO t ht))
    have h2 := o.mv _ (look_mem (bO t ht))
    refine ⟨by unfold ndO; rw [List.length_map]; exact h1, fun m hm => ?_⟩
    obtain ⟨m', hm', rfl⟩ := List.mem_map.mp hm
    refine ⟨(h2 m' hm').1, ?_⟩
    rw [← lO]
    exact List.idxOf_lt_length_of_mem (mO _ (h2 m' hm').2)
  generalize O.map (ndO W O) = V at lV oV
  -- one change
  refine s_seq (s_asg (e_drawV rfl rfl hs (by omega) (by omega) fun q i a s c hs q0 q1 => ?_))
  obtain ⟨k, rfl⟩ := Int.eq_ofNat_of_zero_le q0
  have hk : k < V.length := by omega
  have aV : ∀ (V : Web) (hk : k < V.length), atI ((V.map ndD).map Av.dat) ((k : Nat) : Int) = some (.dat (ndD V[k])) := fun V hk => atI_nat (by rw [List.map_map, List.getElem?_map, List.getElem?_eq_getElem hk]; rfl)
  have gV : ∀ A B, (put (put Ω0 D A) p B) D = some A := fun A B => by rw [put_ne np, put_same]
  obtain ⟨ini, mv, emv⟩ := nd_last (oV _ (List.getElem_mem hk)).1.1
  have omv : (-1000000 ≤ mv.1 ∧ mv.1 ≤ 1000000) ∧ mv.2 < W.length := (oV _ (List.getElem_mem hk)).2 mv (by rw [emv]; exact List.mem_append_right _ List.mem_cons_self)
  refine s_seq (s_asg (e_op (e_op (e_var rfl (e_var rfl (r_ixP (gV _ _) (aV V hk) (e_un (e_int (r_neg (r_ixT (d := mvD mv) ?_ ?_))))))))))
  · rw [emv, List.map_append]
    exact at_last
  clear emv
  -- what each change keeps
  let M : List (Option Av) → AH → Prop := fun Γ' Ω' => ∃ (V : Web) (i : Nat) (a s c : Int), SOk s ∧ V.length = W.length ∧ (∀ nd ∈ V, NdIn W.length nd) ∧ Γ' = [some (.ptr p), some (.dat (webD W)), some (.dat (.int v)), some (.dat (.int ((W.length : Nat) : Int))), none, none, none, none, some (.ptr nm), some (.dat (.list (O.map natD))), some (.ptr D), none, some (.dat (.int ((k : Nat) : Int))), some (.dat (mvD mv))] ∧ Ω' = put (put Ω0 D ((V.map ndD).map .dat)) p (handL ns i a s c)
  have M0 : M [some (.ptr p), some (.dat (webD W)), some (.dat (.int v)), some (.dat (.int ((W.length : Nat) : Int))), none, none, none, none, some (.ptr nm), some (.dat (.list (O.map natD))), some (.ptr D), none, some (.dat (.int ((k : Nat) : Int))), some (.dat (mvD mv))] (put (put Ω0 D ((V.map ndD).map .dat)) p (handL ns i a s c)) := ⟨V, i, a, s, c, hs, lV, oV, rfl, rfl⟩
  have wk : ∀ (V : Web) (i : Nat) (a s c : Int) (nd : Nd), SOk s → V.length = W.length → (∀ nd ∈ V, NdIn W.length nd) → NdIn W.length nd →
      M [some (.ptr p), some (.dat (webD W)), some (.dat (.int v)), some (.dat (.int ((W.length : Nat) : Int))), none, none, none, none, some (.ptr nm), some (.dat (.list (O.map natD))), some (.ptr D), none, some (.dat (.int ((k : Nat) : Int))), some (.dat (mvD mv))] (put (put (put Ω0 D ((V.map ndD).map .dat)) p (handL ns i a s c)) D (((V.map ndD).map Av.dat).set k (.dat (ndD nd)))) := fun V i a s c nd hs lV oV hn => by
    refine ⟨V.set k nd, i, a, s, c, hs, by rw [List.length_set]; exact lV, fun x hx => ?_, rfl, ?_⟩
    · rcases List.mem_or_eq_of_mem_set hx with hx | rfl
      · exact oV x hx
      · exact hn
    · rw [Dat.put_comm np.symm, put_put, List.map_set, List.map_set]
  have kV : ∀ (V : Web), V.length = W.length → ixN ((V.map ndD).map Av.dat).length ((k : Nat) : Int) = some k := fun V lV => by
    rw [List.length_map, List.length_map]
    unfold ixN
    rw [if_pos (by omega), if_pos (by omega)]
    rfl
  refine s_seqM M ?_ ?_
  · refine s_if (t_test (e_op (e_var rfl (e_int (r_eq rfl ⟨_, rfl, fun z => ?_, fun z => s_next M0⟩)))))
    obtain ⟨ini, m2, em⟩ := nd_last (oV _ (List.getElem_mem hk)).1.1
    have on := oV _ (List.getElem_mem hk)
    refine s_setL (e_op (e_slT (e_op (e_var rfl (e_var rfl (r_ixP (gV _ _) (aV V hk) ⟨_, rfl, o_no (o_some (e_un (e_int (r_neg ⟨_, rfl, ?_⟩))))⟩))))))
    have ec : Dat.cutD (V[k].map mvD) none (some (-1 : Int)) = ini.map mvD := by
      rw [em, List.map_append]
      exact cut_ini
    rw [ec]
    have on1 : 1 ≤ ini.length + 1 ∧ ini.length + 1 ≤ 12 := by
      have := on.1
      rw [em, List.length_append, List.length_singleton] at this
      exact this
    refine e_tupD (a_cons (e_tupD (a_cons (e_cb (a_cons (e_un (e_op (e_int (e_int (r_Ii (by exact ⟨by decide, by decide, by decide⟩) (r_neg (a_cons (e_op (e_op (e_var rfl (e_int (r_ixT rfl (e_int (r_I0i (a_nil (c_max2 (a_cons (e_op (e_var rfl (e_int (r_ixT rfl (a_nil ⟨_, .cons (.cons .nil), rfl, a_nil ⟨_, .cons .nil, rfl, r_catT (by rw [List.length_map, List.length_singleton]; omega) ?_⟩⟩)))))))))))))))))))))))))))
    refine e_var rfl ⟨D, rfl, e_var rfl ⟨((k : Nat) : Int), _, k, rfl, gV _ _, kV V lV, ?_⟩⟩
    have e6 : (-(10 ^ (6 : Int).toNat) : Int) = -1000000 := by decide
    rw [e6]
    obtain ⟨x, hx⟩ : ∃ x : Int, x = (if mv.1 - 1 > -1000000 then mv.1 - 1 else -1000000) := ⟨_, rfl⟩
    rw [← hx]
    have ex : PyData.tuple (ini.map mvD ++ [.tuple [.int x, .int ((mv.2 : Nat) : Int)]]) = ndD (ini ++ [(x, mv.2)]) := by
      unfold ndD
      rw [List.map_append]
      rfl
    rw [ex]
    refine wk V i a s c _ hs lV oV ⟨by rw [List.length_append, List.length_singleton]; exact on1, fun m hm => ?_⟩
    rcases List.mem_append.mp hm with hm | hm
    · exact on.2 m (by rw [em]; exact List.mem_append_left _ hm)
    · rw [List.mem_singleton.mp hm]
      refine ⟨?_, omv.2⟩
      show -1000000 ≤ x ∧ x ≤ 1000000
      rw [hx]
      split <;> omega
  rintro Γ' Ω' ⟨V, i, a, s, c, hs, lV, oV, rfl, rfl⟩
  replace hk : k < V.length := by omega
  refine s_seqM M ?_ ?_
  · refine s_if (t_test (e_op (e_var rfl (e_int (r_eq rfl ⟨_, rfl, fun z => ?_, fun z => s_next ⟨V, i, a, s, c, hs, lV, oV, rfl, rfl⟩⟩)))))
    obtain ⟨ini, m2, em⟩ := nd_last (oV _ (List.getElem_mem hk)).1.1
    have on := oV _ (List.getElem_mem hk)
    refine s_setL (e_op (e_slT (e_op (e_var rfl (e_var rfl (r_ixP (gV _ _) (aV V hk) ⟨_, rfl, o_no (o_some (e_un (e_int (r_neg ⟨_, rfl, ?_⟩))))⟩))))))
    have ec : Dat.cutD (V[k].map mvD) none (some (-1 : Int)) = ini.map mvD := by
      rw [em, List.map_append]
      exact cut_ini
    rw [ec]
    have on1 : 1 ≤ ini.length + 1 ∧ ini.length + 1 ≤ 12 := by
      have := on.1
      rw [em, List.length_append, List.length_singleton] at this
      exact this
    refine e_tupD (a_cons (e_tupD (a_cons (e_op (e_var rfl (e_int (r_ixT rfl (a_cons (e_drawV rfl rfl hs (by omega) (by omega) fun t i a s c hs t0 t1 => ?_)))))))))
    obtain ⟨t, rfl⟩ := Int.eq_ofNat_of_zero_le t0
    refine a_nil ⟨_, .cons (.cons .nil), rfl, a_nil ⟨_, .cons .nil, rfl, r_catT (by rw [List.length_map, List.length_singleton]; omega) ?_⟩⟩
    refine e_var rfl ⟨D, rfl, e_var rfl ⟨((k : Nat) : Int), _, k, rfl, gV _ _, kV V lV, ?_⟩⟩
    have ex : PyData.tuple (ini.map mvD ++ [.tuple [.int mv.1, .int ((t : Nat) : Int)]]) = ndD (ini ++ [(mv.1, t)]) := by
      unfold ndD
      rw [List.map_append]
      rfl
    rw [ex]
    refine wk V i a s c _ hs lV oV ⟨by rw [List.length_append, List.length_singleton]; exact on1, fun m hm => ?_⟩
    rcases List.mem_append.mp hm with hm | hm
    · exact on.2 m (by rw [em]; exact List.mem_append_left _ hm)
    · rw [List.mem_singleton.mp hm]
      exact ⟨omv.1, by show t < W.length; omega⟩
  rintro Γ' Ω' ⟨V, i, a, s, c, hs, lV, oV, rfl, rfl⟩
  replace hk : k < V.length := by omega
  refine s_seqM M ?_ ?_
  · refine s_if (t_and (t_test (e_op (e_var rfl (e_int (r_eq rfl ⟨_, rfl, fun z => ?_, fun z => ⟨nofun, fun _ => s_next ⟨V, i, a, s, c, hs, lV, oV, rfl, rfl⟩⟩⟩))))))
    refine t_test (e_op (e_cb (a_cons (e_op (e_var rfl (e_var rfl (r_ixP (gV _ _) (aV V hk) (a_nil (c_lenT (e_int (r_I0b ⟨_, rfl, fun z => ?_, fun z => s_next ⟨V, i, a, s, c, hs, lV, oV, rfl, rfl⟩⟩)))))))))))
    have on := oV _ (List.getElem_mem hk)
    have l12 := of_decide_eq_true z
    rw [List.length_map] at l12
    refine s_setL (e_op (e_op (e_var rfl (e_var rfl (r_ixP (gV _ _) (aV V hk) (e_tupD (a_cons (e_var rfl (a_nil ⟨_, .cons .nil, rfl, r_catT (by rw [List.length_map, List.length_singleton]; omega) ?_⟩)))))))))
    refine e_var rfl ⟨D, rfl, e_var rfl ⟨((k : Nat) : Int), _, k, rfl, gV _ _, kV V lV, ?_⟩⟩
    have ex : PyData.tuple (V[k].map mvD ++ [mvD mv]) = ndD (V[k] ++ [mv]) := by
      unfold ndD
      rw [List.map_append]
      rfl
    rw [ex]
    refine wk V i a s c _ hs lV oV ⟨by rw [List.length_append, List.length_singleton]; omega, fun m hm => ?_⟩
    rcases List.mem_append.mp hm with hm | hm
    · exact on.2 m hm
    · rw [List.mem_singleton.mp hm]
      exact omv
  rintro Γ' Ω' ⟨V, i, a, s, c, hs, lV, oV, rfl, rfl⟩
  refine s_ret (e_then (e_var rfl (r_tupP (ds := V.map ndD) (gV _ _) ?_)))
  rw [Dat.put_comm np, del_put (by rw [put_ne np]; exact nD)]
  exact h V i a s c hs (wok_of (n := W.length) (by omega) (by omega) lV oV) (by omega)
end
end K05

set_option Elab.async false
set_option linter.all false
set_option maxRecDepth 100000
set_option maxHeartbeats 1000000
namespace K05
open PySem PySem.Spec PyProof.Rows L2 Dat Dkd LamX NdefX Clo
local macro_rules | `(tactic| trivial) => `(tactic| (first
  | (with_reducible refine s_seq ?_)
  | (with_reducible refine s_asg ?_)
  | (with_reducible refine s_ret ?_)
  | (with_reducible refine s_drop ?_)
  | (with_reducible refine s_next ?_)
  | (with_reducible refine s_retN ?_)
  | (with_reducible refine s_brk ?_)
  | (with_reducible refine s_cont ?_)
  | (with_reducible refine s_if ?_)
  | (with_reducible refine e_int ?_)
  | (with_reducible refine e_str ?_)
  | (with_reducible refine e_bl ?_)
  | (with_reducible refine e_non ?_)
  | (with_reducible refine e_ty ?_)
  | (with_reducible refine e_tupD ?_)
  | (with_reducible refine e_lstD ?_)
  | (with_reducible refine e_op ?_)
  | (with_reducible refine e_un ?_)
  | (with_reducible refine e_then ?_)
  | (with_reducible refine e_cb ?_)
  | (with_reducible refine e_call ?_)
  | (with_reducible refine e_if ?_)
  | (with_reducible refine e_chain ?_)
  | (with_reducible refine e_andV ?_)
  | (with_reducible refine e_orV ?_)
  | (with_reducible refine e_notV ?_)
  | (with_reducible refine a_cons ?_)
  | (with_reducible refine a_nil ?_)
  | (with_reducible refine t_test ?_)
  | (with_reducible refine t_B ?_)
  | (with_reducible refine t_not ?_)
  | (with_reducible refine t_and ?_)
  | (with_reducible refine t_or ?_)
  | (with_reducible refine r_I0i ?_)
  | (with_reducible refine r_I0b ?_)
  | (with_reducible refine r_neg ?_)
  | (with_reducible refine r_isN ?_)
  | (with_reducible refine r_notN ?_)
  | (with_reducible refine c_lenT ?_)
  | (with_reducible refine c_lenL ?_)
  | (with_reducible refine c_intI ?_)
  | (with_reducible refine c_intB ?_)
  | (with_reducible refine c_max2 ?_)
  | (with_reducible refine c_min2 ?_)
  | (with_reducible refine c_abs ?_)
  | (with_reducible refine r_tupL ?_)
  | (with_reducible refine r_tupT ?_)
  | (with_reducible refine c_allM ?_)
  | ((with_reducible apply e_var); (exact rfl))
  | ((with_reducible refine r_eq ?_ ?_); (exact rfl))
  | ((with_reducible refine r_ne ?_ ?_); (exact rfl))
  | (with_reducible refine c_isi kit_int ?_)
  | (with_reducible refine c_isi kit_bool ?_)
  | (with_reducible refine c_isi kit_tuple ?_)
  | (with_reducible refine c_isi kit_list ?_)
  | (with_reducible refine c_isi kit_str ?_)
  | ((with_reducible apply r_ixT); (exact rfl))
  | ((with_reducible apply dats_pack); (iterate 40 (first | exact Dats.nil | apply Dats.cons | skip)); (exact rfl))
  | (with_reducible refine s_asgG ?_) | (with_reducible refine g_name ?_) | ((with_reducible refine g_tup ?_ ?_); (exact rfl)) | (refine gs_nil ?_) | (refine gs_cons ?_) | (with_reducible refine ⟨rfl, ?_⟩)
  | (refine ⟨_, rfl, ?_⟩) | (refine ⟨_, _, rfl, ?_⟩) | (refine ⟨_, _, _, rfl, ?_⟩) | (with_reducible refine ⟨fun _ => ?_, fun _ => ?_⟩) | fail))
/-! ### by which pair a pair was met; walks that have equal sums -/
abbrev Par (W V : Web) (F : Fo) : Prop := ∀ (k : Nat) (x : Pr × List Nat), F[k]? = some x → x = ((0, 0), []) ∨ ∃ (k' : Nat) (y : Pr × List Nat) (j : Nat) (m m' : Mv), k' < k ∧ F[k']? = some y ∧ x.2 = y.2 ++ [j] ∧ (look W y.1.1)[j]? = some m ∧ (look V y.1.2)[j]? = some m' ∧ x.1 = (m.2, m'.2)
theorem tgts_at {W V : Web} {x t : Pr} {j : Nat} (h : (tgts W V x)[j]? = some t) : ∃ m m', (look W x.1)[j]? = some m ∧ (look V x.2)[j]? = some m' ∧ t = (m.2, m'.2) := by
  unfold tgts at h
  rw [List.getElem?_map] at h
  obtain ⟨mm, e, rfl⟩ := Option.map_eq_some_iff.mp h
  obtain ⟨a, b⟩ := mm
  obtain ⟨h1, h2⟩ := List.getElem?_zip_eq_some.mp e
  exact ⟨a, b, h1, h2, rfl⟩
theorem par_snoc {W V : Web} {F : Fo} (p : Par W V F) {i j : Nat} {y : Pr × List Nat} {t : Pr} (hy : F[i]? = some y) (ht : (tgts W V y.1)[j]? = some t) : Par W V (F ++ [(t, y.2 ++ [j])]) := fun k x hx => by
  have hi := (List.getElem?_eq_some_iff.mp hy).1
  by_cases hk : k < F.length
  · rw [List.getElem?_append_left hk] at hx
    rcases p k x hx with e | ⟨k', y', j', m, m', h1, h2, h3⟩
    · exact .inl e
    · exact .inr ⟨k', y', j', m, m', h1, by rw [List.getElem?_append_left (by omega)]; exact h2, h3⟩
  · rw [List.getElem?_append_right (by omega)] at hx
    have ek : k - F.length = 0 := by
      have := (List.getElem?_eq_some_iff.mp hx).1
      simp at this
      omega
    rw [ek] at hx
    cases hx
    obtain ⟨m, m', h1, h2, h3⟩ := tgts_at ht
    exact .inr ⟨i, y, j, m, m', by omega, by rw [List.getElem?_append_left hi]; exact hy, rfl, h1, h2, h3⟩
theorem par_addP {W V : Web} {i : Nat} {y : Pr × List Nat} : ∀ {ts : List Pr} {j : Nat} {F : Fo}, Par W V F → F[i]? = some y → (∀ (l : Nat) (t : Pr), ts[l]? = some t → (tgts W V y.1)[j + l]? = some t) → Par W V (addP y.2 j F ts)
  | [], _, F, p, _, _ => p
  | t :: r, j, F, p, hy, h => by
    rw [addP_cons]
    have ht := h 0 t rfl
    have hr : ∀ (l : Nat) (u : Pr), r[l]? = some u → (tgts W V y.1)[(j + 1) + l]? = some u := fun l u e => by
      have := h (l + 1) u (by rw [List.getElem?_cons_succ]; exact e)
      rw [show (j + 1) + l = j + (l + 1) by omega]
      exact this
    split
    · exact par_addP p hy hr
    · exact par_addP (par_snoc p hy ht) (by rw [List.getElem?_append_left (List.getElem?_eq_some_iff.mp hy).1]; exact hy) hr
theorem par_bfs {W V : Web} : ∀ {k i : Nat} {F : Fo}, Par W V F → Par W V (bfs W V k F i)
  | 0, _, F, p => p
  | k + 1, i, F, p => by
    cases e : F[i]? with
    | none =>
      have e2 : bfs W V (k + 1) F i = F := by
        show (match F[i]? with | none => F | some x => bfs W V k (addP x.2 0 F (tgts W V x.1)) (i + 1)) = _
        rw [e]
      rw [e2]
      exact p
    | some x =>
      rw [bfs_step e]
      exact par_bfs (par_addP p e fun l t h => by rw [Nat.zero_add]; exact h)
theorem par_met (W V : Web) : Par W V (met W V) := par_bfs fun k x hx => by
  cases k with
  | zero =>
    cases hx
    exact .inl rfl
  | succ k => simp at hx
theorem sel_nat {nd : Nd} {j : Nat} : sel nd (.int ((j : Nat) : Int)) = nd[j]? := by
  show (if 0 ≤ ((j : Nat) : Int) then nd[(((j : Nat) : Int)).toNat]? else none) = _
  rw [if_pos (by omega), Int.toNat_natCast]
theorem fol_snoc {W : Web} {d : PyData} : ∀ {ds : List PyData} {n : Nat} {t : Int} {k : Nat} {n' : Nat} {t' : Int}, fol W ds n t k = (n', t', none) → fol W (ds ++ [d]) n t k = match sel (look W n') d with
    | none => (n', t', some (k + ds.length))
    | some m => (m.2, t' + m.1, none)
  | [], n, t, k, n', t', h => by
    cases h
    rw [List.nil_append, fol_cons]
    cases sel (look W n) d <;> rfl
  | e :: r, n, t, k, n', t', h => by
    rw [fol_cons] at h
    rw [List.cons_append, fol_cons]
    cases es : sel (look W n) e with
    | none => rw [es] at h; cases h
    | some m =>
      rw [es] at h
      show fol W (r ++ [d]) m.2 (t + m.1) (k + 1) = _
      rw [fol_snoc h]
      cases sel (look W n') d with
      | none =>
        show (n', t', some (k + 1 + r.length)) = (n', t', some (k + (r.length + 1)))
        rw [show k + 1 + r.length = k + (r.length + 1) by omega]
      | some m => rfl
theorem iR_snoc {r : List Nat} {j : Nat} : iR (r ++ [j]) = iR r ++ [PyData.int ((j : Nat) : Int)] := by
  unfold iR
  rw [List.map_append]
  rfl
theorem sums_eq {W V : Web} {F : Fo} (p : Par W V F) {i : Nat} (hu : ∀ (k : Nat) (y : Pr × List Nat), k < i → F[k]? = some y → unlike W V y.1 = none) : ∀ (n k : Nat) (x : Pr × List Nat), k ≤ n → k ≤ i → F[k]? = some x → ∃ t, fol W (iR x.2) 0 0 0 = (x.1.1, t, none) ∧ fol V (iR x.2) 0 0 0 = (x.1.2, t, none) := by
  intro n
  induction n with
  | zero =>
    intro k x hk _ hx
    rcases p k x hx with rfl | ⟨k', _, _, _, _, h1, _⟩
    · exact ⟨0, rfl, rfl⟩
    · omega
  | succ n ih =>
    intro k x hk hi hx
    rcases p k x hx with rfl | ⟨k', y, j, m, m', h1, h2, h3, h4, h5, h6⟩
    · exact ⟨0, rfl, rfl⟩
    · obtain ⟨t, q1, q2⟩ := ih k' y (by omega) (by omega) h2
      have hs : m.1 = m'.1 := by
        have h := hu k' y (by omega) h2
        unfold unlike at h
        rw [List.find?_eq_none] at h
        have hj : j < most W V y.1 := by
          have := (List.getElem?_eq_some_iff.mp h4).1
          unfold most
          omega
        have z := h j (List.mem_range.mpr hj)
        unfold same at z
        rw [h4, h5] at z
        simpa using z
      refine ⟨t + m.1, ?_, ?_⟩
      · rw [h3, iR_snoc, fol_snoc q1, sel_nat, h4, h6]
      · rw [h3, iR_snoc, fol_snoc q2, sel_nat, h5, h6, hs]
theorem apart_at' {W V : Web} {r : List Nat} (h : apart W V = some r) : ∃ (i : Nat) (x : Pr × List Nat) (j : Nat), (met W V)[i]? = some x ∧ (∀ (k : Nat) (y : Pr × List Nat), k < i → (met W V)[k]? = some y → unlike W V y.1 = none) ∧ unlike W V x.1 = some j ∧ r = x.2 ++ [j] := by
  unfold apart at h
  generalize met W V = F at h
  induction F with
  | nil => cases h
  | cons y F ih =>
    rw [List.findSome?_cons] at h
    cases e : (unlike W V y.1).map fun j => y.2 ++ [j] with
    | some z =>
      rw [e] at h
      cases h
      obtain ⟨j, hj, ej⟩ := Option.map_eq_some_iff.mp e
      exact ⟨0, y, j, rfl, fun k _ hk => absurd hk (Nat.not_lt_zero _), hj, ej.symm⟩
    | none =>
      rw [e] at h
      obtain ⟨i, x, j, h1, h2, h3, h4⟩ := ih h
      refine ⟨i + 1, x, j, by rw [List.getElem?_cons_succ]; exact h1, fun k u hk hu => ?_, h3, h4⟩
      cases k with
      | zero =>
        cases hu
        exact Option.map_eq_none_iff.mp e
      | succ k =>
        rw [List.getElem?_cons_succ] at hu
        exact h2 k u (by omega) hu
/-- a walk that parts two webs is none in one of them, or has unlike sums -/
theorem apart_sums {W V : Web} {r : List Nat} (h : apart W V = some r) {n n' : Nat} {t t' : Int} (h1 : fol W (iR r) 0 0 0 = (n, t, none)) (h2 : fol V (iR r) 0 0 0 = (n', t', none)) : t ≠ t' := by
  obtain ⟨i, x, j, ex, hu, hj, rfl⟩ := apart_at' h
  obtain ⟨s, q1, q2⟩ := sums_eq (par_met W V) hu i i x (Nat.le_refl _) (Nat.le_refl _) ex
  rw [iR_snoc, fol_snoc q1, sel_nat] at h1
  rw [iR_snoc, fol_snoc q2, sel_nat] at h2
  have hs : same W V x.1 j = false := by
    unfold unlike at hj
    have := List.find?_some hj
    simpa using this
  unfold same at hs
  cases e1 : (look W x.1.1)[j]? with
  | none => rw [e1] at h1; cases h1
  | some m =>
    cases e2 : (look V x.1.2)[j]? with
    | none => rw [e2] at h2; cases h2
    | some m' =>
      rw [e1] at h1
      rw [e2] at h2
      rw [e1, e2] at hs
      cases h1
      cases h2
      have := of_decide_eq_false hs
      omega
/-! ### both ways round -/
def swP (x : Pr) : Pr := (x.2, x.1)
def swF (x : Pr × List Nat) : Pr × List Nat := (swP x.1, x.2)
theorem swP_inj {x y : Pr} : swP x = swP y ↔ x = y := by
  obtain ⟨a, b⟩ := x
  obtain ⟨c, d⟩ := y
  simp [swP, and_comm]
theorem tgts_sw {W V : Web} {x : Pr} : tgts V W (swP x) = (tgts W V x).map swP := by
  unfold tgts swP
  show (List.zip (look V x.2) (look W x.1)).map _ = _
  generalize look W x.1 = a
  generalize look V x.2 = b
  induction a generalizing b with
  | nil => simp
  | cons m a ih =>
    cases b with
    | nil => simp
    | cons m' b =>
      rw [List.zip_cons_cons, List.zip_cons_cons, List.map_cons, List.map_cons, List.map_cons, ih]
theorem sw_mem {F : Fo} {t : Pr} : swP t ∈ (F.map swF).map (·.1) ↔ t ∈ F.map (·.1) := by
  rw [List.map_map]
  constructor
  · intro h
    obtain ⟨y, hy, e⟩ := List.mem_map.mp h
    have e' : swP y.1 = swP t := e
    exact List.mem_map.mpr ⟨y, hy, swP_inj.mp e'⟩
  · intro h
    obtain ⟨y, hy, rfl⟩ := List.mem_map.mp h
    exact List.mem_map.mpr ⟨y, hy, rfl⟩
theorem addP_sw {row : List Nat} : ∀ {ts : List Pr} {j : Nat} {F : Fo}, addP row j (F.map swF) (ts.map swP) = (addP row j F ts).map swF
  | [], _, F => rfl
  | t :: r, j, F => by
    rw [List.map_cons, addP_cons, addP_cons]
    by_cases h : t ∈ F.map (·.1)
    · rw [if_pos (sw_mem.mpr h), if_pos h]
      exact addP_sw
    · rw [if_neg (fun z => h (sw_mem.mp z)), if_neg h]
      have e : F.map swF ++ [(swP t, row ++ [j])] = (F ++ [(t, row ++ [j])]).map swF := by
        rw [List.map_append]
        rfl
      rw [e]
      exact addP_sw
theorem bfs_sw {W V : Web} : ∀ {k i : Nat} {F : Fo}, bfs V W k (F.map swF) i = (bfs W V k F i).map swF
  | 0, _, F => rfl
  | k + 1, i, F => by
    cases e : F[i]? with
    | none =>
      have e1 : bfs W V (k + 1) F i = F := by
        show (match F[i]? with | none => F | some x => bfs W V k (addP x.2 0 F (tgts W V x.1)) (i + 1)) = _
        rw [e]
      have e2 : bfs V W (k + 1) (F.map swF) i = F.map swF := by
        show (match (F.map swF)[i]? with | none => F.map swF | some x => bfs V W k (addP x.2 0 (F.map swF) (tgts V W x.1)) (i + 1)) = _
        rw [List.getElem?_map, e]
        rfl
      rw [e1, e2]
    | some x =>
      have e' : (F.map swF)[i]? = some (swF x) := by
        rw [List.getElem?_map, e]
        rfl
      rw [bfs_step e, bfs_step e']
      have et : tgts V W (swF x).1 = (tgts W V x.1).map swP := tgts_sw
      rw [et]
      show bfs V W k (addP x.2 0 (F.map swF) ((tgts W V x.1).map swP)) (i + 1) = _
      rw [addP_sw]
      exact bfs_sw
theorem met_sw (W V : Web) : met V W = (met W V).map swF := by
  unfold met
  rw [Nat.mul_comm V.length W.length]
  exact bfs_sw (F := [((0, 0), [])])
theorem unlike_sw {W V : Web} {x : Pr} : unlike V W (swP x) = unlike W V x := by
  unfold unlike
  have em : most V W (swP x) = most W V x := by
    unfold most swP
    exact Nat.max_comm _ _
  rw [em]
  have es : (fun j => !same V W (swP x) j) = fun j => !same W V x j := by
    funext j
    unfold same swP
    show (!(match (look V x.2)[j]?, (look W x.1)[j]? with | some m, some m' => decide (m.1 = m'.1) | _, _ => false)) = _
    cases (look V x.2)[j]? with
    | none => cases (look W x.1)[j]? <;> rfl
    | some a =>
      cases (look W x.1)[j]? with
      | none => rfl
      | some b =>
        show (!decide (a.1 = b.1)) = !decide (b.1 = a.1)
        rw [decide_eq_decide.mpr (eq_comm (a := a.1) (b := b.1))]
  rw [es]
theorem apart_sw (W V : Web) : apart V W = apart W V := by
  unfold apart
  rw [met_sw, List.findSome?_map]
  congr 1
  funext x
  show (unlike V W (swP x.1)).map _ = _
  rw [unlike_sw]
  rfl
section
variable {P : Program} {w : World} {K : PySem.W.Frag} [Tb K] {mg : Str → Option Value} {base : Heap}
abbrev spTold : ASp := fun as Ω P => ∃ W V : Web, as = [.dat (webD W), .dat (webD V)] ∧ WOk W ∧ WOk V ∧ P (.dat (difD W V)) Ω
theorem ok_law_told (T : Top P K mg) {Pw : Addr} (TB : TabB base mg T.cw Pw) (hT : Tb.T (K := K) = [(Pw, pbQ)]) : FnOk P w K mg base CX0 8 T.f__law_told T.d__law_told ["_law_net", "_law_twin"] (spA K spTold) := by
  have G_difference : FnOk P w K mg base (L2.CX P w) 7 T.f_difference T.d_difference ["web", "other"] (spY K (spDiff T.x_BadWeb T.x_TooMany)) := ok_difference T TB hT
  refine fnA_ok T.D__law_told.F sc__law_told (fun as Ω P ⟨W, V, e, _⟩ => by subst e; rfl) (fun cdv A outer s H E hr => ?_)
  refine ⟨_, (pss_cons (ps_set (i := 2) sc__law_told.nd rfl (.inl rfl) pe_non)
    (pss_cons (ps_try_as (i := 3) rfl rfl sc__law_told.nd rfl rfl ⟨rfl, by decide, .inl T.m_ParlourError⟩ L2.takes0 (fun W pn xe tk po => (pss_one (ps_set (i := 2) sc__law_told.nd rfl (.inl rfl) (pe_callS G_difference (hr.mono (by omega)) rfl T.D_difference.g T.D_difference.F.kp T.D_difference.b (passAt tk) (pa_cons (pv 0) (pa_cons (pv 1) pa_nil))))))
      (fun a oe cls d pn hz hf => (pss_one (ps_set (i := 2) sc__law_told.nd rfl (.inl rfl) (pe_tup (pa_cons (pe_callB (call_isP hz hf) rfl T.b_isinstance bt_isinstance (pa_cons (pv 3) (pa_cons (pe_glob (v := .ref T.x_BadWeb) rfl T.Y_BadWeb.g rfl) pa_nil))) (pa_cons (pe_callB (call_isP hz hf) rfl T.b_isinstance bt_isinstance (pa_cons (pv 3) (pa_cons (pe_glob (v := .ref T.x_TooMany) rfl T.Y_TooMany.g rfl) pa_nil))) pa_nil)))))))
    (pss_one (ps_ret (pv 2))))), ?_⟩
  rintro as Ω P ⟨W, V, rfl, o, o2, h⟩
  refine s_seq (s_asg (e_non ?_))
  refine s_seqM (fun Γ' Ω' => ∃ y, Γ' = [some (.dat (webD W)), some (.dat (webD V)), some (.dat (difD W V)), y] ∧ Ω' = Ω) ?_ ?_
  · refine s_tryY fun W2 => sy_asgCall (a_cons (e_var rfl (a_cons (e_var rfl (a_nil ⟨W, V, rfl, o, o2, fun e1 => ?_, fun e2 => ?_, fun e0 => ?_⟩)))))
    · refine ⟨T.h_BadWeb, fun a dd hn hs => ?_⟩
      rw [difD1 e1]
      refine s_asg (e_tupD (a_cons (e_cb (a_cons (e_var rfl (a_cons (e_clsY (a_nil (c_isP T.E_BadWeb T.i_WW hn ?_)))))))))
      exact a_cons (e_cb (a_cons (e_var rfl (a_cons (e_clsY (a_nil (c_isP T.E_BadWeb T.i_WT hn (a_nil ⟨_, .cons (.cons .nil), rfl, none, rfl, rfl⟩))))))))
    · refine ⟨T.h_TooMany, fun a dd hn hs => ?_⟩
      rw [difD2 e2]
      refine s_asg (e_tupD (a_cons (e_cb (a_cons (e_var rfl (a_cons (e_clsY (a_nil (c_isP T.E_TooMany T.i_TW hn ?_)))))))))
      exact a_cons (e_cb (a_cons (e_var rfl (a_cons (e_clsY (a_nil (c_isP T.E_TooMany T.i_TT hn (a_nil ⟨_, .cons (.cons .nil), rfl, none, rfl, rfl⟩))))))))
    · rw [difD0 e0]
      exact ⟨none, rfl, rfl⟩
  rintro Γ' Ω' ⟨y, rfl, rfl⟩
  exact s_ret (e_var rfl h)
end
end K05

set_option Elab.async false
set_option linter.all false
set_option maxRecDepth 100000
set_option maxHeartbeats 1000000
namespace K05
open PySem PySem.Spec PyProof.Rows L2 Dat Dkd LamX NdefX Clo Shw
local macro_rules | `(tactic| trivial) => `(tactic| (first
  | (with_reducible refine s_seq ?_)
  | (with_reducible refine s_asg ?_)
  | (with_reducible refine s_ret ?_)
  | (with_reducible refine s_drop ?_)
  | (with_reducible refine s_next ?_)
  | (with_reducible refine s_retN ?_)
  | (with_reducible refine s_brk ?_)
  | (with_reducible refine s_cont ?_)
  | (with_reducible refine s_if ?_)
  | (with_reducible refine e_int ?_)
  | (with_reducible refine e_str ?_)
  | (with_reducible refine e_bl ?_)
  | (with_reducible refine e_non ?_)
  | (with_reducible refine e_ty ?_)
  | (with_reducible refine e_tupD ?_)
  | (with_reducible refine e_lstD ?_)
  | (with_reducible refine e_op ?_)
  | (with_reducible refine e_un ?_)
  | (with_reducible refine e_then ?_)
  | (with_reducible refine e_cb ?_)
  | (with_reducible refine e_call ?_)
  | (with_reducible refine e_if ?_)
  | (with_reducible refine e_chain ?_)
  | (with_reducible refine e_andV ?_)
  | (with_reducible refine e_orV ?_)
  | (with_reducible refine e_notV ?_)
  | (with_reducible refine a_cons ?_)
  | (with_reducible refine a_nil ?_)
  | (with_reducible refine t_test ?_)
  | (with_reducible refine t_B ?_)
  | (with_reducible refine t_not ?_)
  | (with_reducible refine t_and ?_)
  | (with_reducible refine t_or ?_)
  | (with_reducible refine r_I0i ?_)
  | (with_reducible refine r_I0b ?_)
  | (with_reducible refine r_neg ?_)
  | (with_reducible refine r_isN ?_)
  | (with_reducible refine r_notN ?_)
  | (with_reducible refine c_lenT ?_)
  | (with_reducible refine c_lenL ?_)
  | (with_reducible refine c_intI ?_)
  | (with_reducible refine c_intB ?_)
  | (with_reducible refine c_max2 ?_)
  | (with_reducible refine c_min2 ?_)
  | (with_reducible refine c_abs ?_)
  | (with_reducible refine r_tupL ?_)
  | (with_reducible refine r_tupT ?_)
  | (with_reducible refine c_allM ?_)
  | ((with_reducible apply e_var); (exact rfl))
  | ((with_reducible refine r_eq ?_ ?_); (exact rfl))
  | ((with_reducible refine r_ne ?_ ?_); (exact rfl))
  | (with_reducible refine c_isi kit_int ?_)
  | (with_reducible refine c_isi kit_bool ?_)
  | (with_reducible refine c_isi kit_tuple ?_)
  | (with_reducible refine c_isi kit_list ?_)
  | (with_reducible refine c_isi kit_str ?_)
  | ((with_reducible apply r_ixT); (exact rfl))
  | ((with_reducible apply dats_pack); (iterate 40 (first | exact Dats.nil | apply Dats.cons | skip)); (exact rfl))
  | (with_reducible refine s_asgG ?_) | (with_reducible refine g_name ?_) | ((with_reducible refine g_tup ?_ ?_); (exact rfl)) | (refine gs_nil ?_) | (refine gs_cons ?_) | (with_reducible refine ⟨rfl, ?_⟩)
  | (refine ⟨_, rfl, ?_⟩) | (refine ⟨_, _, rfl, ?_⟩) | (refine ⟨_, _, _, rfl, ?_⟩) | (with_reducible refine ⟨fun _ => ?_, fun _ => ?_⟩) | fail))
/-! ### _law_sum of a walk that may change; _law_right -/
def sumD (W : Web) (ds : List PyData) : PyData := match fol W ds 0 0 0 with
  | (n, t, none) => .tuple [.int ((n : Nat) : Int), .int t]
  | (_, _, some _) => .none
section
variable {P : Program} {w : World} {K : PySem.W.Frag} [Tb K] {mg : Str → Option Value} {base : Heap}
abbrev spSumP : ASp := fun as Ω P => ∃ (W : Web) (q : Addr) (ds : List PyData), as = [.dat (webD W), .ptr q] ∧ Ω q = some (ds.map .dat) ∧ WOk W ∧ P (.dat (sumD W ds)) Ω
theorem ok_law_sumP (T : Top P K mg) : FnOk P w K mg base CX0 1 T.f__law_sum T.d__law_sum ["_law_net", "_law_walk_here"] (spA K spSumP) := by
  refine fnA_ok T.D__law_sum.F sc__law_sum (fun as Ω P ⟨W, q, ds, e, _⟩ => by subst e; rfl) (fun cdv A outer s H E hr => ?_)
  refine ⟨_, (pss_cons (ps_asg (pe_tup (pa_cons pe_int (pa_cons pe_int pa_nil))) (Dat.pgT (K := K) (n := 2) rfl rfl (pgs_cons (pg_name (i := 2) sc__law_sum.nd rfl (.inl rfl)) (pgs_cons (pg_name (i := 3) sc__law_sum.nd rfl (.inl rfl)) pgs_nil))))
    (pss_cons (ps_for PassesOwn.never rfl (Dat.piL (K := K) rfl (pv 1)) (pg_name (i := 4) sc__law_sum.nd rfl (.inl rfl))
      (pss_cons (ps_if (PW.pt (pw_or (pt_val (pe_callB (Dat.isiQ (K := K) rfl) rfl T.b_isinstance bt_isinstance (pa_cons (pv 4) (pa_cons (pe_bltn (v := .ty "bool") rfl T.b_bool bt_bool rfl) pa_nil)))) (pw_or (pt_not (pt_val (pe_callB (Dat.isiQ (K := K) rfl) rfl T.b_isinstance bt_isinstance (pa_cons (pv 4) (pa_cons (pe_bltn (v := .ty "int") rfl T.b_int bt_int rfl) pa_nil))))) (pw_or1 (pt_not (pt_chain op_le op_lt pe_int (pv 4) (pe_callB (Dat.lenQ (K := K) rfl) rfl T.b_len bt_len (pa_cons (pe_ix (Dat.ixT (K := K) rfl) (pv 0) (pv 2) (fun _ _ => rfl)) pa_nil))))))))
        (pss_one (ps_ret pe_non))
        pss_nil)
      (pss_cons (ps_set (i := 3) sc__law_sum.nd rfl (.inl rfl) (pe_op op_add (pv 3) (pe_ix (Dat.ixT (K := K) rfl) (pe_ix (Dat.ixT (K := K) rfl) (pe_ix (Dat.ixT (K := K) rfl) (pv 0) (pv 2) (fun _ _ => rfl)) (pv 4) (fun _ _ => rfl)) pe_int (fun _ _ => rfl))))
      (pss_one (ps_set (i := 2) sc__law_sum.nd rfl (.inl rfl) (pe_ix (Dat.ixT (K := K) rfl) (pe_ix (Dat.ixT (K := K) rfl) (pe_ix (Dat.ixT (K := K) rfl) (pv 0) (pv 2) (fun _ _ => rfl)) (pv 4) (fun _ _ => rfl)) pe_int (fun _ _ => rfl)))))))
    (pss_one (ps_ret (pe_tup (pa_cons (pv 2) (pa_cons (pv 3) pa_nil))))))), ?_⟩
  rintro as Ω P ⟨W, q, ds, rfl, oq, o, h⟩
  have h1 : ∀ n t, fol W ds 0 0 0 = (n, t, none) → P (.dat (.tuple [.int ((n : Nat) : Int), .int t])) Ω := fun n t e => by unfold sumD at h; rw [e] at h; exact h
  have h2 : ∀ n t k, fol W ds 0 0 0 = (n, t, some k) → P (.dat .none) Ω := fun n t k e => by unfold sumD at h; rw [e] at h; exact h
  refine s_seq (s_asgG (e_tupD (a_cons (e_int (a_cons (e_int (a_nil ⟨_, .cons (.cons .nil), rfl, g_tup rfl (gs_cons (g_name ⟨rfl, gs_cons (g_name ⟨rfl, gs_nil ?_⟩)⟩))⟩)))))))
  refine s_seqM (fun Γ' Ω' => ∃ (n : Nat) (t : Int) (y : Option Av), Γ' = [some (.dat (webD W)), some (.ptr q), some (.dat (.int ((n : Nat) : Int))), some (.dat (.int t)), y] ∧ Ω' = Ω ∧ fol W ds 0 0 0 = (n, t, none)) ?_ ?_
  · refine s_forC (fun as i Γ' Ω' => as = ds.map .dat ∧ ∃ (n : Nat) (t : Int) (y : Option Av), Γ' = [some (.dat (webD W)), some (.ptr q), some (.dat (.int ((n : Nat) : Int))), some (.dat (.int t)), y] ∧ Ω' = Ω ∧ n < W.length ∧ fol W (ds.drop i) n t i = fol W ds 0 0 0) ?_
    refine i_ptr (e_var rfl ⟨q, _, rfl, oq, ⟨rfl, 0, 0, _, rfl, rfl, o.l1, rfl⟩, (fun i Γ' Ω' ⟨_, n, t, y, _, eΩ, _⟩ => by rw [eΩ]; exact oq), ?_, ?_⟩)
    · rintro i it Γ' Ω' hit ⟨-, n, t, y, rfl, rfl, hn, hf⟩
      rw [List.getElem?_map] at hit
      obtain ⟨d, hd, rfl⟩ := Option.map_eq_some_iff.mp hit
      have hdr : ds.drop i = d :: ds.drop (i + 1) := by
        obtain ⟨hi, e⟩ := List.getElem?_eq_some_iff.mp hd
        rw [List.drop_eq_getElem_cons hi, e]
      rw [hdr, fol_cons] at hf
      refine g_name (s_seq (s_ifB (b := !(sel (look W n) d).isSome) ?_ (fun z => ?_) fun z => s_next ?_))
      · cases d with
        | int j =>
          refine t_or (t_test (e_cb (a_cons (e_var rfl (a_cons (e_ty (a_nil (c_isi kit_bool ⟨_, rfl, nofun, fun _ => ?_⟩))))))))
          refine t_or (t_not (t_test (e_cb (a_cons (e_var rfl (a_cons (e_ty (a_nil (c_isi kit_int ⟨_, rfl, nofun, fun _ => ?_⟩)))))))))
          have es : (sel (look W n) (.int j)).isSome = (decide (0 ≤ j) && decide (j < ((look W n).length : Int))) := by
            rw [← sel_in (o.nd _ (look_mem hn)).1]
            show (decide (0 ≤ j) && decide (j ≤ ((look W n).length : Int) - 1)) = _
            congr 1
            rw [decide_eq_decide]
            omega
          rw [es]
          refine t_notB (t_ofC ?_)
          refine e_chain (e_int (e_var rfl (r_I0b ⟨_, rfl, fun z => ?_, fun z => ?_⟩)))
          · refine e_cb (a_cons (e_op (e_var rfl (e_var rfl (r_ixT (web_at hn) (a_nil (c_lenT (r_I0b ⟨?_, rfl⟩))))))))
            rw [z, Bool.true_and, List.length_map]
          · rw [z, Bool.false_and]
            exact ⟨rfl, rfl⟩
        | bool b =>
          exact t_or (t_test (e_cb (a_cons (e_var rfl (a_cons (e_ty (a_nil (c_isi kit_bool ⟨_, rfl, fun _ => ⟨rfl, rfl⟩, nofun⟩))))))))
        | _ =>
          refine t_or (t_test (e_cb (a_cons (e_var rfl (a_cons (e_ty (a_nil (c_isi kit_bool ⟨_, rfl, nofun, fun _ => ?_⟩))))))))
          exact t_or (t_not (t_test (e_cb (a_cons (e_var rfl (a_cons (e_ty (a_nil (c_isi kit_int ⟨_, rfl, fun _ => ⟨rfl, rfl⟩, nofun⟩)))))))))
      · have es : sel (look W n) d = none := by
          cases e : sel (look W n) d with
          | none => rfl
          | some m => rw [e] at z; cases z
        rw [es] at hf
        exact s_ret (e_non (h2 n t i hf.symm))
      · cases es : sel (look W n) d with
        | none => rw [es] at z; cases z
        | some m =>
          rw [es] at hf
          obtain ⟨j, rfl, hj⟩ := sel_some es
          refine s_seq (s_asg (e_op (e_var rfl (e_op (e_op (e_op (e_var rfl (e_var rfl (r_ixT (web_at hn) (e_var rfl (r_ixT (at_node hj) (e_int (r_ixT rfl (r_I0i ?_))))))))))))))
          exact s_asg (e_op (e_op (e_op (e_var rfl (e_var rfl (r_ixT (web_at hn) (e_var rfl (r_ixT (at_node hj) (e_int (r_ixT rfl ⟨rfl, _, _, _, rfl, rfl, o.tgt hn hj, hf⟩))))))))))
    · rintro Γ' Ω' ⟨-, n, t, y, rfl, rfl, hn, hf⟩
      refine ⟨n, t, y, rfl, rfl, ?_⟩
      rw [← hf, List.length_map, List.drop_length]
      rfl
  rintro Γ' Ω' ⟨n, t, y, rfl, rfl, hf⟩
  exact s_ret (e_tupD (a_cons (e_var rfl (a_cons (e_var rfl (a_nil ⟨_, .cons (.cons .nil), rfl, h1 n t hf⟩))))))
theorem r_notNP {Ω : AH} {P : Av → AH → Prop} {p : Addr} (h : P (.dat (.bool true)) Ω) : R2W K rNotNo (.ptr p) (.dat .none) Ω P := fun F H x y Q k hx hy q => by
  cases hx
  cases hy with | dat hy =>
    cases hy
    exact ⟨rfl, q _ _ _ _ h k (.dat (.bl _))⟩
theorem s_back {t : TS} {Γ : List (Option Av)} {E : EndA} {Ω Ω' : AH} (h : Ω' = Ω ∨ ∃ q ds, Ω q = none ∧ Ω' = put Ω q (List.map Av.dat ds)) (k : SW K t Γ Ω E) : SW K t Γ Ω' E := by
  rcases h with rfl | ⟨q, ds, nq, rfl⟩
  · exact k
  · refine s_forget (p := q) put_same ?_
    rw [del_put nq]
    exact k
end
theorem look_len {W : Web} (o : WOk W) (n : Nat) : (look W n).length ≤ 12 := by
  by_cases h : n < W.length
  · exact (o.nd _ (look_mem h)).2
  · unfold look
    rw [List.getD_eq_getElem?_getD, List.getElem?_eq_none (by omega)]
    exact Nat.zero_le _
theorem row_lt {W V : Web} (o : WOk W) {F : Fo} (p : Par W V F) : ∀ (n k : Nat) (x : Pr × List Nat), k ≤ n → F[k]? = some x → ∀ a ∈ x.2, a < 12 := by
  intro n
  induction n with
  | zero =>
    intro k x hk hx a ha
    rcases p k x hx with rfl | ⟨k', _, _, _, _, h1, _⟩
    · cases ha
    · omega
  | succ n ih =>
    intro k x hk hx a ha
    rcases p k x hx with rfl | ⟨k', y, j, m, m', h1, h2, h3, h4, h5, h6⟩
    · cases ha
    · rw [h3] at ha
      rcases List.mem_append.mp ha with ha | ha
      · exact ih k' y (by omega) h2 a ha
      · rw [List.mem_singleton.mp ha]
        have := (List.getElem?_eq_some_iff.mp h4).1
        have := look_len o y.1.1
        omega
theorem apart_ok {W V : Web} (o : WOk W) (o2 : WOk V) {r : List Nat} (h : apart W V = some r) : (∀ a ∈ r, a ≤ 12) ∧ r.length ≤ W.length * V.length := by
  obtain ⟨i, x, j, ex, hu, hj, rfl⟩ := apart_at' h
  have hx := List.mem_of_getElem? ex
  have ls := met_short (W := W) (V := V) x hx
  have lg := (met_gd o o2).len
  refine ⟨fun a ha => ?_, by rw [List.length_append, List.length_singleton]; omega⟩
  rcases List.mem_append.mp ha with ha | ha
  · have := row_lt o (par_met W V) i i x (Nat.le_refl _) ex a ha
    omega
  · rw [List.mem_singleton.mp ha]
    unfold unlike at hj
    have := List.mem_range.mp (List.mem_of_find?_eq_some hj)
    unfold most at this
    have := look_len o x.1.1
    have := look_len o2 x.1.2
    omega
theorem sh_bool (b : Bool) : Sh (.bool b) 0 40 := by
  cases b <;> exact ⟨by simp [PyData.showable], by simp [PyData.hasDict], by simp [PyData.depth], by simp [PyData.leavesShort, PyData.shown] <;> decide +kernel, by simp [PyData.weight] <;> decide +kernel⟩
theorem sh_shown {d : PyData} {k w : Nat} (h : Sh d k w) (hk : k ≤ 64) (hw : w ≤ 2 ^ 20) : Shown d := ⟨h.s, (fun z => by rw [h.n] at z; cases z), Nat.le_trans h.k hk, h.fits hw⟩
theorem shown_bools (a b : Bool) : Shown (.tuple [.bool a, .bool b]) :=
  sh_shown (Sh.tup (k := 0) (w := 40) (n := 2) (fun d hd => by
    simp only [List.mem_cons, List.not_mem_nil, or_false] at hd
    rcases hd with rfl | rfl <;> exact sh_bool _) (by simp)) (by decide) (by decide)
theorem shown_iR {r : List Nat} (h : ∀ a ∈ r, a ≤ 12) (hl : r.length ≤ 1000) : Shown (.list (iR r)) :=
  sh_shown (Sh.lst (k := 0) (w := 40) (n := 1000) (fun d hd => by
    unfold iR at hd
    obtain ⟨a, ha, rfl⟩ := List.mem_map.mp hd
    have := h a ha
    exact .int (by rw [Int.natAbs_natCast]; omega)) (by unfold iR; rw [List.length_map]; exact hl)) (by decide) (by decide)
theorem lay_iR (r : List Nat) : Lay (.list (iR r)) 1 := Lay.lst fun d hd => by
  unfold iR at hd
  obtain ⟨a, ha, rfl⟩ := List.mem_map.mp hd
  exact Lay.int _
theorem Lay.bl (b : Bool) : Lay (.bool b) 0 := ⟨by simp [PyData.canLay0], by simp [PyData.depth]⟩
theorem lay_web (W : Web) : Lay (webD W) 3 := Lay.tup fun d hd => by
  obtain ⟨n, _, rfl⟩ := List.mem_map.mp hd
  exact Lay.tup fun d hd => by
    obtain ⟨m, _, rfl⟩ := List.mem_map.mp hd
    exact Lay.tup fun d hd => by
      simp only [List.mem_cons, List.not_mem_nil, or_false] at hd
      rcases hd with rfl | rfl <;> exact Lay.int _
theorem lay_dif (W V : Web) : Lay (difD W V) 3 := by
  unfold difD
  split
  · exact lay_web _
  · refine Lay.mono (k := 1) (Lay.tup fun d hd => ?_) (by decide)
    simp only [List.mem_cons, List.not_mem_nil, or_false] at hd
    rcases hd with rfl | rfl <;> exact Lay.bl _
theorem difK_cases {W V : Web} : difK W V = 0 ∨ difK W V = 1 ∨ difK W V = 2 := by
  unfold difK
  split
  · split
    · exact .inl rfl
    · exact .inr (.inr rfl)
  · exact .inr (.inl rfl)
theorem dif_ok {W V : Web} (o : WOk W) (o2 : WOk V) (h : difK W V = 0) : Near (dif W V) ∧ jud (dif W V) = true := by
  unfold difK at h
  by_cases q : (prs W V).all (lens W V) = true
  · rw [if_pos q] at h
    refine ⟨dif_near o o2 q, ?_⟩
    by_cases j : jud (dif W V) = true
    · exact j
    · rw [if_neg j] at h
      cases h
  · rw [if_neg q] at h
    cases h
theorem shown_dif {W V : Web} (o : WOk W) (o2 : WOk V) : Shown (difD W V) := by
  rcases difK_cases (W := W) (V := V) with h | h | h
  · rw [difD0 h]
    obtain ⟨n, j⟩ := dif_ok o o2 h
    unfold jud at j
    rw [Bool.and_eq_true, decide_eq_true_eq] at j
    obtain ⟨j1, j2⟩ := j
    refine sh_shown (Sh.tup (k := 2) (w := 12 * (82 + 1)) (n := 120) (fun d hd => ?_) (by rw [List.length_map]; exact j1)) (by decide) (by decide)
    obtain ⟨nd, hnd, rfl⟩ := List.mem_map.mp hd
    refine Sh.tup (k := 1) (w := 82) (n := 12) (fun d hd => ?_) (by rw [List.length_map]; exact (n.nd nd hnd).2)
    obtain ⟨m, hm, rfl⟩ := List.mem_map.mp hd
    have hw := List.all_eq_true.mp (List.all_eq_true.mp j2 nd hnd) m hm
    unfold wIn at hw
    rw [Bool.and_eq_true, decide_eq_true_eq, decide_eq_true_eq] at hw
    have ht := n.tg nd hnd m hm
    refine Sh.tup (k := 0) (w := 40) (n := 2) (fun d hd => ?_) (by simp)
    simp only [List.mem_cons, List.not_mem_nil, or_false] at hd
    rcases hd with rfl | rfl
    · exact .int (by omega)
    · exact .int (by rw [Int.natAbs_natCast]; omega)
  · rw [difD1 h]
    exact shown_bools _ _
  · rw [difD2 h]
    exact shown_bools _ _
theorem shown_none : Shown .none := ⟨by decide +kernel, by decide +kernel, by decide +kernel, by decide +kernel⟩
section
variable {P : Program} {w : World} {K : PySem.W.Frag} [Tb K] {mg : Str → Option Value} {base : Heap}
abbrev spRight : ASp := fun as Ω P => ∃ W V : Web, as = [.dat (webD W), .dat (webD V)] ∧ WOk W ∧ WOk V ∧ W.length ≤ 30 ∧ V.length ≤ 30 ∧ P (.dat (.bool true)) Ω
set_option maxHeartbeats 4000000 in
theorem ok_law_right (T : Top P K mg) {Pw : Addr} (TB : TabB base mg T.cw Pw) (hT : Tb.T (K := K) = [(Pw, pbQ)]) : Grd.FnG P w K mg base CX0 9 T.f__law_right T.d__law_right ["_law_net", "_law_twin"] (spA K spRight) := by
  have G__law_pairs : FnOk P w K mg base CX0 1 T.f__law_pairs T.d__law_pairs ["_law_net", "_law_twin"] (spA K spPairs) := ok_law_pairs T
  have G_walk_apart : FnOk P w K mg base CX0 7 T.f_walk_apart T.d_walk_apart ["web", "other"] (spA K spApart) := ok_walk_apart T TB hT (ok_index_apart T)
  have G__law_sum : FnOk P w K mg base CX0 1 T.f__law_sum T.d__law_sum ["_law_net", "_law_walk_here"] (spA K spSumP) := ok_law_sumP T
  have G__law_difference : FnOk P w K mg base CX0 1 T.f__law_difference T.d__law_difference ["_law_net", "_law_twin"] (spA K spLDif) := ok_law_difference T
  have G__law_told : FnOk P w K mg base CX0 8 T.f__law_told T.d__law_told ["_law_net", "_law_twin"] (spA K spTold) := ok_law_told T TB hT
  have G_is_web : FnOk P w K mg base CX0 5 T.f_is_web T.d_is_web ["thing"] (spA K spWebJ) := ok_is_webJ T
  have G_difference : FnOk P w K mg base CX0 7 T.f_difference T.d_difference ["web", "other"] (spA K (noY (spDiff T.x_BadWeb T.x_TooMany))) := fnY_noX (ok_difference T TB hT)
  refine fngA_ok T.D__law_right.F sc__law_right (fun as Ω P ⟨W, V, e, _⟩ => by subst e; rfl) (fun cdv A outer s H E hr hgd => ?_)
  refine ⟨_, (pss_cons (ps_set (i := 2) sc__law_right.nd rfl (.inl rfl) (pe_ix (Dat.ixT (K := K) rfl) (pe_call G__law_pairs (hr.mono (by omega)) rfl T.D__law_pairs.g T.D__law_pairs.F.kp T.D__law_pairs.b .nil pass0 (pa_cons (pv 0) (pa_cons (pv 1) pa_nil))) pe_int (fun _ _ => rfl)))
    (pss_cons (ps_set (i := 3) sc__law_right.nd rfl (.inl rfl) (pe_call G_walk_apart (hr.mono (by omega)) rfl T.D_walk_apart.g T.D_walk_apart.F.kp T.D_walk_apart.b .nil pass0 (pa_cons (pv 0) (pa_cons (pv 1) pa_nil))))
    (pss_cons (ps_if (PW.pt (pw_or (pt_cmpR op_ne (pe_callB (Dat.reprQ (K := K) rfl hgd (hu100 hr)) rfl T.b_repr bt_repr (pa_cons (pv 3) pa_nil)) (pe_callB (Dat.reprQ (K := K) rfl hgd (hu100 hr)) rfl T.b_repr bt_repr (pa_cons (pv 2) pa_nil)) (nomark _)) (pw_or1 (pt_cmpR (Dat.neDQ (K := K) rfl (hu64 hr)) (pe_callN0 G_walk_apart (hr.mono (by omega)) rfl T.D_walk_apart.g T.D_walk_apart.F.kp T.KN_walk_apart__other_web pass0 (pk_cons (pv 0) (pk_cons (pv 1) pk_nil))) (pv 2) (nomark _)))))
      (pss_one (ps_ret pe_bl))
      pss_nil)
    (pss_cons (ps_if (pt_cmpR Dat.op_notNo (pv 3) pe_non (nomark _))
      (pss_cons (ps_par (i := 4) (j := 5) rfl sc__law_right.nd rfl rfl (by decide) rfl rfl (pa_cons (pe_call G__law_sum (hr.mono (by omega)) rfl T.D__law_sum.g T.D__law_sum.F.kp T.D__law_sum.b .nil pass0 (pa_cons (pv 0) (pa_cons (pv 3) pa_nil))) (pa_cons (pe_call G__law_sum (hr.mono (by omega)) rfl T.D__law_sum.g T.D__law_sum.F.kp T.D__law_sum.b .nil pass0 (pa_cons (pv 1) (pa_cons (pv 3) pa_nil))) pa_nil)) (by rfl))
      (pss_cons (ps_if (PW.pt (pw_and (pt_cmpR Dat.op_notNo (pv 4) pe_non (nomark _)) (pw_and (pt_cmpR Dat.op_notNo (pv 5) pe_non (nomark _)) (pw_and1 (pt_cmpR op_eq (pe_ix (Dat.ixT (K := K) rfl) (pv 4) pe_int (fun _ _ => rfl)) (pe_ix (Dat.ixT (K := K) rfl) (pv 5) pe_int (fun _ _ => rfl)) (nomark _))))))
        (pss_one (ps_ret pe_bl))
        pss_nil)
      (pss_cons (ps_expr (Dat.appQ (K := K) rfl (pv 3) (pa_cons pe_int pa_nil)))
      (pss_one (ps_if (pt_cmpR (Dat.neDQ (K := K) rfl (hu64 hr)) (pe_callN0 G_walk_apart (hr.mono (by omega)) rfl T.D_walk_apart.g T.D_walk_apart.F.kp T.KN_walk_apart__other_web pass0 (pk_cons (pv 1) (pk_cons (pv 0) pk_nil))) (pv 2) (nomark _))
        (pss_one (ps_ret pe_bl))
        pss_nil)))))
      pss_nil)
    (pss_cons (ps_set (i := 6) sc__law_right.nd rfl (.inl rfl) (pe_call G__law_difference (hr.mono (by omega)) rfl T.D__law_difference.g T.D__law_difference.F.kp T.D__law_difference.b .nil pass0 (pa_cons (pv 0) (pa_cons (pv 1) pa_nil))))
    (pss_cons (ps_set (i := 7) sc__law_right.nd rfl (.inl rfl) (pe_call G__law_told (hr.mono (by omega)) rfl T.D__law_told.g T.D__law_told.F.kp T.D__law_told.b .nil pass0 (pa_cons (pv 0) (pa_cons (pv 1) pa_nil))))
    (pss_cons (ps_if (PW.pt (pw_or (pt_cmpR op_ne (pe_callB (Dat.reprQ (K := K) rfl hgd (hu100 hr)) rfl T.b_repr bt_repr (pa_cons (pv 7) pa_nil)) (pe_callB (Dat.reprQ (K := K) rfl hgd (hu100 hr)) rfl T.b_repr bt_repr (pa_cons (pv 6) pa_nil)) (nomark _)) (pw_or1 (pt_cmpR (Dat.neDQ (K := K) rfl (hu64 hr)) (pe_call G__law_told (hr.mono (by omega)) rfl T.D__law_told.g T.D__law_told.F.kp T.D__law_told.b .nil pass0 (pa_cons (pv 1) (pa_cons (pv 0) pa_nil))) (pe_call G__law_difference (hr.mono (by omega)) rfl T.D__law_difference.g T.D__law_difference.F.kp T.D__law_difference.b .nil pass0 (pa_cons (pv 1) (pa_cons (pv 0) pa_nil))) (nomark _)))))
      (pss_one (ps_ret pe_bl))
      pss_nil)
    (pss_one (ps_ret (pe_or (pe_and (pe_cmpR op_eq (pe_callB (Dat.lenQ (K := K) rfl) rfl T.b_len bt_len (pa_cons (pv 6) pa_nil)) pe_int (nomark _)) (pe_one (pe_callB (Dat.isiQ (K := K) rfl) rfl T.b_isinstance bt_isinstance (pa_cons (pe_ix (Dat.ixT (K := K) rfl) (pv 6) pe_int (fun _ _ => rfl)) (pa_cons (pe_bltn (v := .ty "bool") rfl T.b_bool bt_bool rfl) pa_nil))))) (pe_one (pe_and (pe_call G_is_web (hr.mono (by omega)) rfl T.D_is_web.g T.D_is_web.F.kp T.D_is_web.b .nil pass0 (pa_cons (pv 7) pa_nil)) (pe_one (pe_cmpR (Dat.eqDQ (K := K) rfl (hu64 hr)) (pe_callN0 G_difference (hr.mono (by omega)) rfl T.D_difference.g T.D_difference.F.kp T.KN_difference__other_web pass0 (pk_cons (pv 1) (pk_cons (pv 0) pk_nil))) (pv 7) (nomark _))))))))))))))), ?_⟩
  rintro as Ω P ⟨W, V, rfl, o, o2, l30, m30, h⟩
  have NB : W.length * V.length ≤ 900 := Nat.le_trans (Nat.mul_le_mul l30 m30) (by decide)
  have NB' : V.length * W.length ≤ 900 := Nat.le_trans (Nat.mul_le_mul m30 l30) (by decide)
  refine s_seq (s_asg (e_op (e_call (a_cons (e_var rfl (a_cons (e_var rfl (a_nil ⟨W, V, rfl, o, o2, fun fs => e_int (r_ixT rfl ?_)⟩))))))))
  refine s_seqM (fun Γ' Ω' => ∃ (y3 : Option Av), Γ' = [some (.dat (webD W)), some (.dat (webD V)), some (.dat (apD W V)), y3, none, none, none, none] ∧ (y3 = some (.dat .none) ∧ apart W V = none ∧ Ω' = Ω ∨ ∃ r q, y3 = some (.ptr q) ∧ apart W V = some r ∧ Ω q = none ∧ Ω' = put Ω q ((iR r).map .dat))) ?_ ?_
  · cases hap : apart W V with
    | none =>
      exact s_asg (e_call (a_cons (e_var rfl (a_cons (e_var rfl (a_nil ⟨W, V, rfl, o, o2, fun _ => ⟨_, rfl, .inl ⟨rfl, rfl, rfl⟩⟩, fun r hr => by rw [hap] at hr; cases hr⟩))))))
    | some r =>
      exact s_asg (e_call (a_cons (e_var rfl (a_cons (e_var rfl (a_nil ⟨W, V, rfl, o, o2, (fun hr => by rw [hap] at hr; cases hr), fun r' hr q nq => ⟨_, rfl, .inr ⟨r', q, rfl, hap.symm.trans hr, nq, rfl⟩⟩⟩))))))
  rintro Γ' Ω' ⟨y3, rfl, hy⟩
  have esw : apart V W = apart W V := apart_sw W V
  refine s_seqM (fun Γ' Ω'' => Γ' = [some (.dat (webD W)), some (.dat (webD V)), some (.dat (apD W V)), y3, none, none, none, none] ∧ Ω'' = Ω') ?_ ?_
  · rcases hy with ⟨rfl, hap, rfl⟩ | ⟨r, q, rfl, hap, nq, rfl⟩
    · have ed : apD W V = .none := by unfold apD; rw [hap]
      rw [ed]
      refine s_if (t_or (t_test (e_op (e_cb (a_cons (e_var rfl (a_nil (c_repr shown_none (e_cb (a_cons (e_var rfl (a_nil (c_repr shown_none (r_ne rfl ⟨_, rfl, (fun z => absurd z (by simp [eqD])), fun _ => ?_⟩))))))))))))))
      refine t_test (e_op (e_callK (a_cons (e_var rfl (a_cons (e_var rfl (a_nil ⟨rfl, V, W, rfl, o2, o, fun _ => ?_, (fun r hr => by rw [esw, hap] at hr; cases hr)⟩)))))))
      exact e_var rfl (r_neD (Lay.none.shaped (by decide)) (Lay.none.shaped (by decide)) ⟨_, rfl, (fun z => absurd z (by decide)), fun _ => s_next ⟨rfl, rfl⟩⟩)
    · have ed : apD W V = .list (iR r) := by unfold apD; rw [hap]
      obtain ⟨r12, rl⟩ := apart_ok o o2 hap
      have sh : Shown (.list (iR r)) := shown_iR r12 (by omega)
      rw [ed]
      refine s_if (t_or (t_test (e_op (e_cb (a_cons (e_var rfl (a_nil (c_reprP put_same sh (e_cb (a_cons (e_var rfl (a_nil (c_repr sh (r_ne rfl ⟨_, rfl, (fun z => absurd z (by simp [eqD])), fun _ => ?_⟩))))))))))))))
      refine t_test (e_op (EW.frz (e_callK (a_cons (e_var rfl (a_cons (e_var rfl (a_nil ⟨rfl, V, W, rfl, o2, o, (fun hr => by rw [esw, hap] at hr; cases hr), fun r' hr q2 nq2 => ⟨q2, iR r', rfl, put_same, ?_⟩⟩))))))))
      rw [del_put nq2]
      rw [esw, hap] at hr
      cases hr
      exact e_var rfl (r_neD ((lay_iR r).shaped (by decide)) ((lay_iR r).shaped (by decide)) ⟨_, rfl, (fun z => absurd z (by rw [eqv_lay (lay_iR r)]; decide)), fun _ => s_next ⟨rfl, rfl⟩⟩)
  rintro Γ' Ω'' ⟨rfl, rfl⟩
  refine s_seqM (fun Γ' Ω'' => ∃ (y3 y4 y5 : Option Av), Γ' = [some (.dat (webD W)), some (.dat (webD V)), some (.dat (apD W V)), y3, y4, y5, none, none] ∧ (Ω'' = Ω ∨ ∃ q ds, Ω q = none ∧ Ω'' = put Ω q (List.map Av.dat ds))) ?_ ?_
  · rcases hy with ⟨rfl, hap, rfl⟩ | ⟨r, q, rfl, hap, nq, rfl⟩
    · exact s_if (t_test (e_op (e_var rfl (e_non (r_notN ⟨_, rfl, nofun, fun _ => s_next ⟨_, _, _, rfl, .inl rfl⟩⟩)))))
    · have ed : apD W V = .list (iR r) := by unfold apD; rw [hap]
      obtain ⟨r12, rl⟩ := apart_ok o o2 hap
      refine s_if (t_test (e_op (e_var rfl (e_non (r_notNP ⟨_, rfl, fun _ => ?_, nofun⟩)))))
      refine s_seq (s_par (a_cons (e_call (a_cons (e_var rfl (a_cons (e_var rfl (a_nil ⟨W, q, iR r, rfl, put_same, o, ?_⟩))))))))
      refine a_cons (e_call (a_cons (e_var rfl (a_cons (e_var rfl (a_nil ⟨V, q, iR r, rfl, put_same, o2, a_nil ⟨_, _, rfl, ?_⟩⟩))))))
      refine s_seq (s_ifB (b := false) ?_ nofun fun _ => s_next ?_)
      · have e1 : sumD W (iR r) = match fol W (iR r) 0 0 0 with | (n, t, none) => .tuple [.int ((n : Nat) : Int), .int t] | (_, _, some _) => .none := rfl
        have e2 : sumD V (iR r) = match fol V (iR r) 0 0 0 with | (n, t, none) => .tuple [.int ((n : Nat) : Int), .int t] | (_, _, some _) => .none := rfl
        rcases f1 : fol W (iR r) 0 0 0 with ⟨n, t, k⟩
        rcases f2 : fol V (iR r) 0 0 0 with ⟨n', t', k'⟩
        rw [f1] at e1
        rw [f2] at e2
        rw [e1, e2]
        cases k with
        | some k => exact t_and (t_test (e_op (e_var rfl (e_non (r_notN ⟨_, rfl, nofun, fun _ => ⟨rfl, rfl⟩⟩)))))
        | none =>
          cases k' with
          | some k' => exact t_and (t_test (e_op (e_var rfl (e_non (r_notN ⟨_, rfl, fun _ => t_and (t_test (e_op (e_var rfl (e_non (r_notN ⟨_, rfl, nofun, fun _ => ⟨rfl, rfl⟩⟩))))), nofun⟩)))))
          | none =>
            have ne := apart_sums hap f1 f2
            refine t_and (t_test (e_op (e_var rfl (e_non (r_notN ⟨_, rfl, fun _ => t_and (t_test (e_op (e_var rfl (e_non (r_notN ⟨_, rfl, fun _ => ?_, nofun⟩))))), nofun⟩)))))
            refine t_test (e_op (e_op (e_var rfl (e_int (r_ixT rfl (e_op (e_var rfl (e_int (r_ixT rfl (r_eq rfl ⟨_, rfl, ?_, rfl⟩))))))))))
            show eqD (.int t) (.int t') = false
            simp [eqD, ne]
      refine s_seq (s_drop (e_app (e_var rfl ⟨q, rfl, ⟨_, put_same⟩, a_cons (e_int (a_nil ⟨_, _, rfl, put_same, by unfold iR; rw [List.length_map, List.length_map]; omega, ?_⟩))⟩)))
      rw [put_put, show (iR r).map Av.dat ++ [Av.dat (PyData.int 0)] = (iR r ++ [PyData.int 0]).map Av.dat by rw [List.map_append]; rfl]
      rw [ed]
      refine s_if (t_test (e_op (EW.frz (e_callK (a_cons (e_var rfl (a_cons (e_var rfl (a_nil ⟨rfl, W, V, rfl, o, o2, (fun hr => by rw [hap] at hr; cases hr), fun r' hr q2 nq2 => ⟨q2, iR r', rfl, put_same, ?_⟩⟩)))))))))
      rw [del_put nq2]
      rw [hap] at hr
      cases hr
      exact e_var rfl (r_neD ((lay_iR r).shaped (by decide)) ((lay_iR r).shaped (by decide)) ⟨_, rfl, (fun z => absurd z (by rw [eqv_lay (lay_iR r)]; decide)), fun _ => s_next ⟨_, _, _, rfl, .inr ⟨q, _, nq, rfl⟩⟩⟩)
  rintro Γ' Ω'' ⟨y3, y4, y5, rfl, hΩ⟩
  refine s_back hΩ ?_
  refine s_seq (s_asg (e_call (a_cons (e_var rfl (a_cons (e_var rfl (a_nil ⟨W, V, rfl, o, o2, by omega, ?_⟩)))))))
  refine s_seq (s_asg (e_call (a_cons (e_var rfl (a_cons (e_var rfl (a_nil ⟨W, V, rfl, o, o2, ?_⟩)))))))
  have sd := shown_dif o o2
  refine s_seq (s_if (t_or (t_test (e_op (e_cb (a_cons (e_var rfl (a_nil (c_repr sd (e_cb (a_cons (e_var rfl (a_nil (c_repr sd (r_ne rfl ⟨_, rfl, (fun z => absurd z (by simp [eqD])), fun _ => ?_⟩)))))))))))))))
  refine t_test (e_op (e_call (a_cons (e_var rfl (a_cons (e_var rfl (a_nil ⟨V, W, rfl, o2, o, e_call (a_cons (e_var rfl (a_cons (e_var rfl (a_nil ⟨V, W, rfl, o2, o, by omega, r_neD ((lay_dif V W).shaped (by decide)) ((lay_dif V W).shaped (by decide)) ⟨_, rfl, (fun z => absurd z (by rw [eqv_lay (lay_dif V W)]; decide)), fun _ => s_next ?_⟩⟩)))))⟩)))))))
  rcases difK_cases (W := W) (V := V) with e0 | e1 | e2
  · obtain ⟨near, ej⟩ := dif_ok o o2 e0
    rw [difD0 e0]
    refine s_ret (e_orV (EW.mono (P := fun a Ω1 => a = .dat (.bool false) ∧ Ω1 = Ω) ?_ fun a Ω1 ⟨ea, eo⟩ => ⟨false, ea, nofun, fun _ => ?_⟩))
    · refine e_andV (e_op (e_cb (a_cons (e_var rfl (a_nil (c_lenT (e_int (r_eq rfl ⟨_, rfl, fun z => ?_, fun z => ⟨rfl, rfl⟩⟩))))))))
      have l2 : (dif W V).length = 2 := by
        rw [List.length_map] at z
        have : ((dif W V).length : Int) = 2 := by simpa [eqD] using z
        omega
      obtain ⟨n, en⟩ : ∃ n, (dif W V)[0]? = some n := ⟨_, List.getElem?_eq_getElem (by omega)⟩
      exact e_cb (a_cons (e_op (e_var rfl (e_int (r_ixT (d := ndD n) (atI_nat (j := 0) (by rw [List.getElem?_map, en]; rfl)) (a_cons (e_ty (a_nil (c_isi kit_bool ⟨rfl, rfl⟩)))))))))
    · subst eo
      exact e_andV (e_call (a_cons (e_var rfl (a_nil ⟨dif W V, rfl, near, true, by rw [ej], (fun _ => e_op (e_callK (a_cons (e_var rfl (a_cons (e_var rfl (a_nil ⟨rfl, W, V, rfl, o, o2, (fun e => by rw [e0] at e; cases e), (fun e => by rw [e0] at e; cases e), fun _ => e_var rfl (r_eqD ((lay_web _).shaped (by decide)) ((lay_web _).shaped (by decide)) (by rw [eqv_lay (lay_web _)]; exact h))⟩))))))), nofun⟩))))
  · rw [difD1 e1]
    exact s_ret (e_orV (e_andV (e_op (e_cb (a_cons (e_var rfl (a_nil (c_lenT (e_int (r_eq rfl ⟨_, rfl, fun _ => e_cb (a_cons (e_op (e_var rfl (e_int (r_ixT rfl (a_cons (e_ty (a_nil (c_isi kit_bool ⟨_, rfl, fun _ => h, nofun⟩))))))))), nofun⟩))))))))))
  · rw [difD2 e2]
    exact s_ret (e_orV (e_andV (e_op (e_cb (a_cons (e_var rfl (a_nil (c_lenT (e_int (r_eq rfl ⟨_, rfl, fun _ => e_cb (a_cons (e_op (e_var rfl (e_int (r_ixT rfl (a_cons (e_ty (a_nil (c_isi kit_bool ⟨_, rfl, fun _ => h, nofun⟩))))))))), nofun⟩))))))))))
end
end K05

set_option Elab.async false
set_option linter.all false
set_option maxRecDepth 100000
set_option maxHeartbeats 1000000
namespace K05
open PySem PySem.Spec PyProof.Rows L2 Dat Dkd LamX NdefX Clo Shw
/-! ### the law's own webs: rounds, a line and a late one, two small ones -/
def rnd (n : Nat) : Web := (List.range n).map fun k => [((0 : Int), (k + 1) % n)]
def late (n : Nat) : Web := (rnd n).take (n - 1) ++ [[((1 : Int), 0)]]
theorem rnd_len (n : Nat) : (rnd n).length = n := by unfold rnd; rw [List.length_map, List.length_range]
theorem rnd_in {n : Nat} (h : 1 ≤ n) : ∀ nd ∈ rnd n, NdIn n nd ∧ nd.length ≤ 1 := fun nd hnd => by
  obtain ⟨k, hk, rfl⟩ := List.mem_map.mp hnd
  refine ⟨⟨⟨by simp, by simp⟩, fun m hm => ?_⟩, by simp⟩
  rw [List.mem_singleton.mp hm]
  exact ⟨⟨by show (-1000000 : Int) ≤ 0; decide, by show (0 : Int) ≤ 1000000; decide⟩, Nat.mod_lt _ (by omega)⟩
theorem rnd_ok {n : Nat} (h : 1 ≤ n) (h2 : n ≤ 120) : WOk (rnd n) := wok_of h h2 (rnd_len n) fun nd hnd => (rnd_in h nd hnd).1
theorem late_len {n : Nat} (h : 1 ≤ n) : (late n).length = n := by
  unfold late
  rw [List.length_append, List.length_take, rnd_len, List.length_singleton]
  omega
theorem late_ok {n : Nat} (h : 1 ≤ n) (h2 : n ≤ 120) : WOk (late n) := wok_of h h2 (late_len h) fun nd hnd => by
  rcases List.mem_append.mp hnd with hnd | hnd
  · exact (rnd_in h nd (List.mem_of_mem_take hnd)).1
  · rw [List.mem_singleton.mp hnd]
    refine ⟨⟨by simp, by simp⟩, fun m hm => ?_⟩
    rw [List.mem_singleton.mp hm]
    exact ⟨⟨by show (-1000000 : Int) ≤ 1; decide, by show (1 : Int) ≤ 1000000; decide⟩, h⟩
theorem rnd_at {n k : Nat} (h : k < n) : look (rnd n) k = [((0 : Int), (k + 1) % n)] := by
  unfold look rnd
  rw [List.getD_eq_getElem?_getD, List.getElem?_map, List.getElem?_range h]
  rfl
theorem late_at {n k : Nat} (h : k + 1 < n) : look (late n) k = [((0 : Int), (k + 1) % n)] := by
  rw [← rnd_at (n := n) (k := k) (by omega)]
  unfold look late
  rw [List.getD_eq_getElem?_getD, List.getElem?_append_left (by rw [List.length_take, rnd_len]; omega), List.getElem?_take, if_pos (by omega), List.getD_eq_getElem?_getD]
theorem late_end {n : Nat} (h : 1 ≤ n) : look (late n) (n - 1) = [((1 : Int), 0)] := by
  have l : ((rnd n).take (n - 1)).length = n - 1 := by rw [List.length_take, rnd_len]; omega
  unfold look late
  rw [List.getD_eq_getElem?_getD, List.getElem?_append_right (by omega), l, Nat.sub_self]
  rfl
def linF (k : Nat) : Fo := (List.range k).map fun j => ((j, j), List.replicate j 0)
theorem linF_len (k : Nat) : (linF k).length = k := by unfold linF; rw [List.length_map, List.length_range]
theorem linF_at {n k : Nat} (h : k < n) : (linF n)[k]? = some ((k, k), List.replicate k 0) := by
  unfold linF
  rw [List.getElem?_map, List.getElem?_range h]
  rfl
theorem linF_succ (k : Nat) : linF (k + 1) = linF k ++ [((k, k), List.replicate k 0)] := by
  unfold linF
  rw [List.range_succ, List.map_append]
  rfl
theorem linF_mem {n : Nat} {t : Pr} : t ∈ (linF n).map (·.1) ↔ ∃ j, j < n ∧ t = (j, j) := by
  unfold linF
  rw [List.map_map, List.mem_map]
  constructor
  · rintro ⟨j, hj, rfl⟩
    exact ⟨j, List.mem_range.mp hj, rfl⟩
  · rintro ⟨j, hj, rfl⟩
    exact ⟨j, List.mem_range.mpr hj, rfl⟩
theorem lin_tgts {n k : Nat} (h : k < n) : tgts (rnd n) (late n) (k, k) = [((k + 1) % n, (k + 1) % n)] := by
  unfold tgts
  by_cases e : k + 1 < n
  · show (List.zip (look (rnd n) k) (look (late n) k)).map _ = _
    rw [rnd_at h, late_at e]
    rfl
  · have e' : k = n - 1 := by omega
    show (List.zip (look (rnd n) k) (look (late n) k)).map _ = _
    rw [rnd_at h, e', late_end (by omega), show n - 1 + 1 = n by omega, Nat.mod_self]
    rfl
theorem lin_bfs {n : Nat} : ∀ (d k fuel : Nat), n = k + 1 + d → d + 1 ≤ fuel → bfs (rnd n) (late n) fuel (linF (k + 1)) k = linF n
  | d, k, 0, _, hf => by omega
  | 0, k, fuel + 1, e, _ => by
    have hk : k < n := by omega
    have en : n = k + 1 := by omega
    rw [bfs_step (linF_at (by omega)), lin_tgts hk, addP_cons, if_pos (linF_mem.mpr ⟨0, by omega, by rw [en, Nat.mod_self]⟩)]
    show bfs (rnd n) (late n) fuel (linF (k + 1)) (k + 1) = linF n
    have hb := bfs_end (W := rnd n) (V := late n) (k := fuel) (F := linF (k + 1))
    rw [linF_len] at hb
    rw [hb, en]
  | d + 1, k, fuel + 1, e, hf => by
    have hk : k < n := by omega
    have em : (k + 1) % n = k + 1 := Nat.mod_eq_of_lt (by omega)
    rw [bfs_step (linF_at (by omega)), lin_tgts hk, em, addP_cons, if_neg (fun z => by
      obtain ⟨j, hj, ej⟩ := linF_mem.mp z
      injection ej with ej _
      omega)]
    show bfs (rnd n) (late n) fuel (linF (k + 1) ++ [((k + 1, k + 1), List.replicate k 0 ++ [0])]) (k + 1) = linF n
    rw [← List.replicate_succ', ← linF_succ (k + 1)]
    exact lin_bfs d (k + 1) fuel (by omega) (by omega)
theorem lin_met {n : Nat} (h : 1 ≤ n) : met (rnd n) (late n) = linF n := by
  unfold met
  rw [rnd_len, late_len h]
  have : n ≤ n * n := Nat.le_mul_of_pos_left n h
  exact lin_bfs (n - 1) 0 _ (by omega) (by omega)
theorem line_apart {n : Nat} (h : 1 ≤ n) : apart (rnd n) (late n) = some (List.replicate n 0) := by
  have h1 : ∀ k, k < n - 1 → unlike (rnd n) (late n) (k, k) = none := fun k hk => by
    refine unlike_none fun j hj => ?_
    have hl : most (rnd n) (late n) (k, k) = 1 := by
      unfold most
      show max (look (rnd n) k).length (look (late n) k).length = 1
      rw [rnd_at (by omega), late_at (by omega)]
      rfl
    rw [hl] at hj
    obtain rfl : j = 0 := by omega
    unfold same
    show (match (look (rnd n) k)[0]?, (look (late n) k)[0]? with | some m, some m' => decide (m.1 = m'.1) | _, _ => false) = true
    rw [rnd_at (by omega), late_at (by omega)]
    rfl
  have h2 : unlike (rnd n) (late n) (n - 1, n - 1) = some 0 := by
    refine unlike_some ?_ (fun k hk => by omega) ?_
    · unfold most
      show 0 < max (look (rnd n) (n - 1)).length (look (late n) (n - 1)).length
      rw [rnd_at (by omega), late_end h]
      exact Nat.lt_of_lt_of_le Nat.one_pos (Nat.le_max_left _ _)
    · unfold same
      show (match (look (rnd n) (n - 1))[0]?, (look (late n) (n - 1))[0]? with | some m, some m' => decide (m.1 = m'.1) | _, _ => false) = false
      rw [rnd_at (by omega), late_end h]
      rfl
  have e := apart_at (W := rnd n) (V := late n) (F := linF n) (i := n - 1) (j := 0) (linF_at (by omega)) ⟨[], by rw [lin_met h, List.append_nil]⟩ (fun k y hk hy => by
    rw [linF_at (by omega)] at hy
    cases hy
    exact h1 k hk) h2
  rw [e]
  show some (List.replicate (n - 1) 0 ++ [0]) = _
  rw [← List.replicate_succ', show n - 1 + 1 = n by omega]
theorem line_apart' {n : Nat} (h : 1 ≤ n) : apart (late n) (rnd n) = some (List.replicate n 0) := by
  rw [apart_sw]
  exact line_apart h
def tinyA : Web := [[((1000000 : Int), 0)]]
def tinyB : Web := [[((0 : Int), 0)]]
theorem tiny_oA : WOk tinyA := wok_of (n := 1) (by decide) (by decide) rfl fun nd hnd => by
  rw [List.mem_singleton.mp hnd]
  refine ⟨⟨by simp, by simp⟩, fun m hm => ?_⟩
  rw [List.mem_singleton.mp hm]
  exact ⟨⟨by show (-1000000 : Int) ≤ 1000000; decide, by show (1000000 : Int) ≤ 1000000; decide⟩, by decide⟩
theorem tiny_oB : WOk tinyB := wok_of (n := 1) (by decide) (by decide) rfl fun nd hnd => by
  rw [List.mem_singleton.mp hnd]
  refine ⟨⟨by simp, by simp⟩, fun m hm => ?_⟩
  rw [List.mem_singleton.mp hm]
  exact ⟨⟨by show (-1000000 : Int) ≤ 0; decide, by show (0 : Int) ≤ 1000000; decide⟩, by decide⟩
theorem tiny_met : (met tinyA tinyB).map (·.1) = [(0, 0)] := by decide +kernel
theorem tiny_prs : prs tinyA tinyB = [(0, 0)] := by
  have h := srtP_perm ((met tinyA tinyB).map (·.1))
  rw [tiny_met] at h
  have h2 : prs tinyA tinyB = srtP [(0, 0)] := by unfold prs; rw [tiny_met]
  rw [h2]
  exact List.perm_singleton.mp h
theorem tiny_dif : dif tinyA tinyB = tinyA := by
  unfold dif
  rw [tiny_prs]
  decide +kernel
theorem tiny_difK : difK tinyA tinyB = 0 := by
  unfold difK
  rw [tiny_dif, tiny_prs]
  decide +kernel
end K05

set_option Elab.async false
set_option linter.all false
set_option maxRecDepth 100000
set_option maxHeartbeats 4000000
namespace K05
open PySem PySem.Spec PyProof.Rows L2 Dat Dkd LamX NdefX Clo Shw
local macro_rules | `(tactic| trivial) => `(tactic| (first
  | (with_reducible refine s_seq ?_)
  | (with_reducible refine s_asg ?_)
  | (with_reducible refine s_ret ?_)
  | (with_reducible refine s_drop ?_)
  | (with_reducible refine s_next ?_)
  | (with_reducible refine s_retN ?_)
  | (with_reducible refine s_brk ?_)
  | (with_reducible refine s_cont ?_)
  | (with_reducible refine s_if ?_)
  | (with_reducible refine e_int ?_)
  | (with_reducible refine e_str ?_)
  | (with_reducible refine e_bl ?_)
  | (with_reducible refine e_non ?_)
  | (with_reducible refine e_ty ?_)
  | (with_reducible refine e_tupD ?_)
  | (with_reducible refine e_lstD ?_)
  | (with_reducible refine e_op ?_)
  | (with_reducible refine e_un ?_)
  | (with_reducible refine e_then ?_)
  | (with_reducible refine e_cb ?_)
  | (with_reducible refine e_call ?_)
  | (with_reducible refine e_if ?_)
  | (with_reducible refine e_chain ?_)
  | (with_reducible refine e_andV ?_)
  | (with_reducible refine e_orV ?_)
  | (with_reducible refine e_notV ?_)
  | (with_reducible refine a_cons ?_)
  | (with_reducible refine a_nil ?_)
  | (with_reducible refine t_test ?_)
  | (with_reducible refine t_B ?_)
  | (with_reducible refine t_not ?_)
  | (with_reducible refine t_and ?_)
  | (with_reducible refine t_or ?_)
  | (with_reducible refine r_I0i ?_)
  | (with_reducible refine r_I0b ?_)
  | (with_reducible refine r_neg ?_)
  | (with_reducible refine r_isN ?_)
  | (with_reducible refine r_notN ?_)
  | (with_reducible refine c_lenT ?_)
  | (with_reducible refine c_lenL ?_)
  | (with_reducible refine c_intI ?_)
  | (with_reducible refine c_intB ?_)
  | (with_reducible refine c_max2 ?_)
  | (with_reducible refine c_min2 ?_)
  | (with_reducible refine c_abs ?_)
  | (with_reducible refine r_tupL ?_)
  | (with_reducible refine r_tupT ?_)
  | (with_reducible refine c_allM ?_)
  | ((with_reducible apply e_var); (exact rfl))
  | ((with_reducible refine r_eq ?_ ?_); (exact rfl))
  | ((with_reducible refine r_ne ?_ ?_); (exact rfl))
  | (with_reducible refine c_isi kit_int ?_)
  | (with_reducible refine c_isi kit_bool ?_)
  | (with_reducible refine c_isi kit_tuple ?_)
  | (with_reducible refine c_isi kit_list ?_)
  | (with_reducible refine c_isi kit_str ?_)
  | ((with_reducible apply r_ixT); (exact rfl))
  | ((with_reducible apply dats_pack); (iterate 40 (first | exact Dats.nil | apply Dats.cons | skip)); (exact rfl))
  | (with_reducible refine s_asgG ?_) | (with_reducible refine g_name ?_) | ((with_reducible refine g_tup ?_ ?_); (exact rfl)) | (refine gs_nil ?_) | (refine gs_cons ?_) | (with_reducible refine ⟨rfl, ?_⟩)
  | (refine ⟨_, rfl, ?_⟩) | (refine ⟨_, _, rfl, ?_⟩) | (refine ⟨_, _, _, rfl, ?_⟩) | (with_reducible refine ⟨fun _ => ?_, fun _ => ?_⟩) | fail))
/-! ### the law -/
abbrev csS : Scope := { kind := .function, names := [(".0", .local), ("_law_size", .cell), ("tuple", .globalImplicit), ("range", .globalImplicit)], isGenerator := false, isCoroutine := false }
theorem cut_dr {α : Type} {xs : List α} {j : Nat} : Dat.cutD xs (some (((j : Nat) : Int) + 1)) none = xs.drop (j + 1) := by
  unfold Dat.cutD
  rw [show ((j : Nat) : Int) + 1 = ((j + 1 : Nat) : Int) by omega, HT.sIx_nat, HT.sIx_none]
  rcases Nat.le_total (j + 1) xs.length with h | h
  · rw [Nat.min_eq_left h, List.take_of_length_le (by rw [List.length_drop]; exact Nat.le_refl _)]
  · rw [Nat.min_eq_right h, List.drop_length, List.drop_eq_nil_of_le h, List.take_nil]
theorem cut_m1 {l : List PyData} (h : 1 ≤ l.length) : Dat.cutD l none (some (-1 : Int)) = l.take (l.length - 1) := by
  rcases List.eq_nil_or_concat l with rfl | ⟨ini, x, rfl⟩
  · cases h
  · rw [List.concat_eq_append, cut_ini, List.length_append, List.length_singleton, Nat.add_sub_cancel, List.take_left]
theorem webD_rnd (n : Nat) : PyData.tuple ((List.range n).map fun k => ndD [((0 : Int), (k + 1) % n)]) = webD (rnd n) := by
  unfold webD rnd
  rw [List.map_map]
  rfl
theorem webD_late {n : Nat} (h : 1 ≤ n) : PyData.tuple (Dat.cutD ((rnd n).map ndD) none (some (-1 : Int)) ++ [.tuple [.tuple [.int 1, .int 0]]]) = webD (late n) := by
  rw [cut_m1 (by rw [List.length_map, rnd_len]; exact h), List.length_map, rnd_len]
  unfold webD late
  rw [List.map_append, List.map_take]
  rfl
theorem mod_nat {k m : Nat} : (0 + ((k : Nat) : Int) + 1) % ((m : Nat) : Int) = (((k + 1) % m : Nat) : Int) := by
  rw [show 0 + ((k : Nat) : Int) + 1 = ((k + 1 : Nat) : Int) by omega]
  exact (Int.natCast_emod _ _).symm
def oneN (N t : Nat) (u : Int) : Web := (rnd (N + 1)).take t ++ [[(u, (t + 1) % (N + 1))]] ++ (rnd (N + 1)).drop (t + 1)
theorem oneN_len {N t : Nat} {u : Int} (h : t < N + 1) : (oneN N t u).length = N + 1 := by
  unfold oneN
  rw [List.length_append, List.length_append, List.length_take, List.length_drop, rnd_len, List.length_singleton]
  omega
theorem oneN_in {N t : Nat} {u : Int} (u0 : 0 ≤ u) (u1 : u < 3) : ∀ nd ∈ oneN N t u, NdIn (N + 1) nd ∧ nd.length ≤ 1 := fun nd hnd => by
  unfold oneN at hnd
  rcases List.mem_append.mp hnd with hnd | hnd
  · rcases List.mem_append.mp hnd with hnd | hnd
    · exact rnd_in (by omega) nd (List.mem_of_mem_take hnd)
    · rw [List.mem_singleton.mp hnd]
      refine ⟨⟨⟨by simp, by simp⟩, fun m hm => ?_⟩, by simp⟩
      rw [List.mem_singleton.mp hm]
      exact ⟨⟨by show (-1000000 : Int) ≤ u; omega, by show u ≤ (1000000 : Int); omega⟩, Nat.mod_lt _ (by omega)⟩
  · exact rnd_in (by omega) nd (List.mem_of_mem_drop hnd)
theorem webD_one {N t : Nat} {u : Int} : PyData.tuple (Dat.cutD ((rnd (N + 1)).map ndD) none (some ((t : Nat) : Int)) ++ [.tuple [.tuple [.int u, .int ((((t : Nat) : Int) + 1) % (((N : Nat) : Int) + 1))]]] ++ Dat.cutD ((rnd (N + 1)).map ndD) (some (((t : Nat) : Int) + 1)) none) = webD (oneN N t u) := by
  rw [cut_dr, cut_to', show (((t : Nat) : Int) + 1) % (((N : Nat) : Int) + 1) = (((t + 1) % (N + 1) : Nat) : Int) from rfl]
  unfold webD oneN
  rw [List.map_append, List.map_append, List.map_take, List.map_drop]
  rfl
section
variable {P : Program} {w : World} {K : PySem.W.Frag} [Tb K] {mg : Str → Option Value} {base : Heap}
abbrev spLawA : ASp := fun as Ω P => ∃ ns : List Int, as = [.scr ns] ∧ ns.length ≤ 63 ∧ ∀ Ω', P (.dat (.bool true)) Ω'
theorem ok_law (T : Top P K mg) {Pw : Addr} (TB : TabB base mg T.cw Pw) (hT : Tb.T (K := K) = [(Pw, pbQ)]) {f : Addr} {fd : FuncData} (F : L2.Fun K "law" "law" s_law f fd) : Grd.FnG P w K mg base CX0 10 f fd ["_law_script"] (spA K spLawA) := by
  have G__law_hand : FnOk P w K mg base CX0 1 T.f__law_hand T.d__law_hand ["_law_script"] (spA K spHand) := ok_hand T
  have G__law_web : FnOk P w K mg base CX0 3 T.f__law_web T.d__law_web ["_law_hand_here", "_law_most"] (spA K spLWeb) := ok_law_web T
  have G__law_draw : FnOk P w K mg base CX0 2 T.f__law_draw T.d__law_draw ["_law_hand_here", "_law_size"] (spA K spDraw) := ok_draw T
  have G__law_other : FnOk P w K mg base CX0 4 T.f__law_other T.d__law_other ["_law_hand_here", "_law_net"] (spA K spOther) := ok_law_other T
  have G__law_right : Grd.FnG P w K mg base CX0 9 T.f__law_right T.d__law_right ["_law_net", "_law_twin"] (spA K spRight) := ok_law_right T TB hT
  have G__law_pairs : FnOk P w K mg base CX0 1 T.f__law_pairs T.d__law_pairs ["_law_net", "_law_twin"] (spA K spPairs) := ok_law_pairs T
  have G_walk_apart : FnOk P w K mg base CX0 7 T.f_walk_apart T.d_walk_apart ["web", "other"] (spA K spApart) := ok_walk_apart T TB hT (ok_index_apart T)
  have G__law_difference : FnOk P w K mg base CX0 1 T.f__law_difference T.d__law_difference ["_law_net", "_law_twin"] (spA K spLDif) := ok_law_difference T
  have G__law_told : FnOk P w K mg base CX0 8 T.f__law_told T.d__law_told ["_law_net", "_law_twin"] (spA K spTold) := ok_law_told T TB hT
  have G_difference : FnOk P w K mg base CX0 7 T.f_difference T.d_difference ["web", "other"] (spA K (noY (spDiff T.x_BadWeb T.x_TooMany))) := fnY_noX (ok_difference T TB hT)
  refine fngA_ok F sc_law (fun as Ω P ⟨ns, e, _⟩ => by subst e; rfl) (fun cdv A outer s H E hr hgd => ?_)
  refine ⟨_, (pss_cons (ps_set (i := 1) sc_law.nd rfl (.inl rfl) (pe_call G__law_hand (hr.mono (by omega)) rfl T.D__law_hand.g T.D__law_hand.F.kp T.D__law_hand.b .nil pass0 (pa_cons (pv 0) pa_nil)))
    (pss_cons (ps_for PassesOwn.never rfl (pi_range1 rfl T.b_range (pa_cons (pe_callB (Dat.cl_max2 rfl) rfl T.b_max bt_max (pa_cons pe_int (pa_cons (pe_callB (Dat.cl_min2 rfl) rfl T.b_min bt_min (pa_cons pe_int (pa_cons (pe_callB (Dat.lenQ (K := K) rfl) rfl T.b_len bt_len (pa_cons (pv 0) pa_nil)) pa_nil))) pa_nil))) pa_nil)) (pg_name (i := 2) sc_law.nd rfl (.inl rfl))
      (pss_cons (ps_set (i := 3) sc_law.nd rfl (.inl rfl) (pe_call G__law_web (hr.mono (by omega)) rfl T.D__law_web.g T.D__law_web.F.kp T.D__law_web.b .nil pass0 (pa_cons (pv 1) (pa_cons pe_int pa_nil))))
      (pss_cons (ps_set (i := 4) sc_law.nd rfl (.inl rfl) (pe_call G__law_other (hr.mono (by omega)) rfl T.D__law_other.g T.D__law_other.F.kp T.D__law_other.b .nil pass0 (pa_cons (pv 1) (pa_cons (pv 3) pa_nil))))
      (pss_one (ps_if (PW.pt (pw_or (pt_not (pt_val (Grd.pe_callG G__law_right (hr.mono (by omega)) (Nat.le_refl _) hgd rfl T.D__law_right.g T.D__law_right.F.kp T.D__law_right.b pass0 (pa_cons (pv 3) (pa_cons (pv 4) pa_nil))))) (pw_or1 (pt_not (pt_val (Grd.pe_callG G__law_right (hr.mono (by omega)) (Nat.le_refl _) hgd rfl T.D__law_right.g T.D__law_right.F.kp T.D__law_right.b pass0 (pa_cons (pv 3) (pa_cons (pv 3) pa_nil))))))))
        (pss_one (ps_ret pe_bl))
        pss_nil)))))
    (pss_cons (ps_set (i := 5) sc_law.nd rfl (.inl rfl) (pe_op op_add pe_int (pe_call G__law_draw (hr.mono (by omega)) rfl T.D__law_draw.g T.D__law_draw.F.kp T.D__law_draw.b .nil pass0 (pa_cons (pv 1) (pa_cons pe_int pa_nil)))))
    (pss_cons (ps_setLc (i := 6) (own := [("_law_size", 8)]) (g := (gName 8)) (tt := tYes) rfl sc_law.nd rfl rfl (sw_true rfl rfl rfl (by decide +kernel)) (Dat.piL (K := K) rfl (pe_lst (pa_cons (pv 5) (pa_cons (pe_op op_add (pv 5) pe_int) pa_nil)))) (blkOk_by (N := N_law) (sc := defScope s_law) (by decide +kernel)) (fun _ _ _ _ _ => (pg_name (i := 8) sc_law.nd rfl (Or.inr rfl))) (fun _ _ _ _ _ => pts_nil) (fun _ _ _ _ _ => (Dat.pe_tupleK (K := K) rfl rfl T.b_tuple (pe_lc (own := [("_law_k", 7)]) (g := (gName 7)) (tt := tYes) rfl sc_law.nd (pi_range1 rfl T.b_range (pa_cons (pv 8) pa_nil)) (blkOk_by (N := N_law) (sc := csS) (by decide +kernel)) (fun _ _ _ _ _ => (pg_name (i := 7) sc_law.nd rfl (Or.inl rfl))) (fun _ _ _ _ _ => pts_nil) (fun _ _ _ _ _ => (pe_tup (pa_cons (pe_tup (pa_cons pe_int (pa_cons (pe_op op_mod (pe_callTy Dat.cl_int rfl T.b_int bt_int (pa_cons (pe_op op_add (pv 7) pe_int) pa_nil)) (pv 8)) pa_nil))) pa_nil)))))))
    (pss_cons (ps_set (i := 9) sc_law.nd rfl (.inl rfl) (pe_call G__law_draw (hr.mono (by omega)) rfl T.D__law_draw.g T.D__law_draw.F.kp T.D__law_draw.b .nil pass0 (pa_cons (pv 1) (pa_cons (pe_op op_add (pv 5) pe_int) pa_nil))))
    (pss_cons (ps_asg (pe_op (Dat.catT (K := K) rfl) (pe_op (Dat.catT (K := K) rfl) (pe_slice (Dat.slT (K := K) rfl) (pe_ix (Dat.ixL (K := K) rfl) (pv 6) pe_int (fun _ _ => rfl)) po_none (po_some (pv 9))) (pe_tup (pa_cons (pe_tup (pa_cons (pe_tup (pa_cons (pe_call G__law_draw (hr.mono (by omega)) rfl T.D__law_draw.g T.D__law_draw.F.kp T.D__law_draw.b .nil pass0 (pa_cons (pv 1) (pa_cons pe_int pa_nil))) (pa_cons (pe_op op_mod (pe_callTy Dat.cl_int rfl T.b_int bt_int (pa_cons (pe_op op_add (pv 9) pe_int) pa_nil)) (pe_op op_add (pv 5) pe_int)) pa_nil))) pa_nil)) pa_nil))) (pe_slice (Dat.slT (K := K) rfl) (pe_ix (Dat.ixL (K := K) rfl) (pv 6) pe_int (fun _ _ => rfl)) (po_some (pe_op op_add (pv 9) pe_int)) po_none)) (pg_sub (pv 6) pe_int set_list))
    (pss_cons (ps_if (pt_cmpR (Dat.neDQ (K := K) rfl (hu64 hr)) (pe_call G_walk_apart (hr.mono (by omega)) rfl T.D_walk_apart.g T.D_walk_apart.F.kp T.D_walk_apart.b .nil pass0 (pa_cons (pe_ix (Dat.ixL (K := K) rfl) (pv 6) pe_int (fun _ _ => rfl)) (pa_cons (pe_ix (Dat.ixL (K := K) rfl) (pv 6) pe_int (fun _ _ => rfl)) pa_nil))) (pe_ix (Dat.ixT (K := K) rfl) (pe_call G__law_pairs (hr.mono (by omega)) rfl T.D__law_pairs.g T.D__law_pairs.F.kp T.D__law_pairs.b .nil pass0 (pa_cons (pe_ix (Dat.ixL (K := K) rfl) (pv 6) pe_int (fun _ _ => rfl)) (pa_cons (pe_ix (Dat.ixL (K := K) rfl) (pv 6) pe_int (fun _ _ => rfl)) pa_nil))) pe_int (fun _ _ => rfl)) (nomark _))
      (pss_one (ps_ret pe_bl))
      pss_nil)
    (pss_cons (ps_set (i := 8) sc_law.nd rfl (.inr rfl) (pe_op op_add pe_int (pe_call G__law_draw (hr.mono (by omega)) rfl T.D__law_draw.g T.D__law_draw.F.kp T.D__law_draw.b .nil pass0 (pa_cons (pv 1) (pa_cons pe_int pa_nil)))))
    (pss_cons (ps_set (i := 10) sc_law.nd rfl (.inl rfl) (Dat.pe_tupleK (K := K) rfl rfl T.b_tuple (pe_lc (own := [("_law_k", 7)]) (g := (gName 7)) (tt := tYes) rfl sc_law.nd (pi_range1 rfl T.b_range (pa_cons (pv 8) pa_nil)) (blkOk_by (N := N_law) (sc := defScope s_law) (by decide +kernel)) (fun _ _ _ _ _ => (pg_name (i := 7) sc_law.nd rfl (Or.inl rfl))) (fun _ _ _ _ _ => pts_nil) (fun _ _ _ _ _ => (pe_tup (pa_cons (pe_tup (pa_cons pe_int (pa_cons (pe_op op_mod (pe_callTy Dat.cl_int rfl T.b_int bt_int (pa_cons (pe_op op_add (pv 7) pe_int) pa_nil)) (pv 8)) pa_nil))) pa_nil))))))
    (pss_cons (ps_set (i := 11) sc_law.nd rfl (.inl rfl) (pe_op (Dat.catT (K := K) rfl) (pe_slice (Dat.slT (K := K) rfl) (pv 10) po_none (po_some (pe_un un_neg pe_int))) (pe_tup (pa_cons (pe_tup (pa_cons (pe_tup (pa_cons pe_int (pa_cons pe_int pa_nil))) pa_nil)) pa_nil))))
    (pss_cons (ps_if (PW.pt (pw_or (pt_cmpR (Dat.neDQ (K := K) rfl (hu64 hr)) (pe_call G_walk_apart (hr.mono (by omega)) rfl T.D_walk_apart.g T.D_walk_apart.F.kp T.D_walk_apart.b .nil pass0 (pa_cons (pv 10) (pa_cons (pv 11) pa_nil))) (pe_op op_rep (pe_lst (pa_cons pe_int pa_nil)) (pv 8)) (nomark _)) (pw_or1 (pt_cmpR (Dat.neDQ (K := K) rfl (hu64 hr)) (pe_call G_walk_apart (hr.mono (by omega)) rfl T.D_walk_apart.g T.D_walk_apart.F.kp T.D_walk_apart.b .nil pass0 (pa_cons (pv 11) (pa_cons (pv 10) pa_nil))) (pe_op op_rep (pe_lst (pa_cons pe_int pa_nil)) (pv 8)) (nomark _)))))
      (pss_one (ps_ret pe_bl))
      pss_nil)
    (pss_cons (ps_if (pt_cmpR op_eq (pe_call G__law_draw (hr.mono (by omega)) rfl T.D__law_draw.g T.D__law_draw.F.kp T.D__law_draw.b .nil pass0 (pa_cons (pv 1) (pa_cons pe_int pa_nil))) pe_int (nomark _))
      (pss_one (ps_asg (pe_op (Dat.catT (K := K) rfl) (pe_slice (Dat.slT (K := K) rfl) (pe_ix (Dat.ixL (K := K) rfl) (pv 6) pe_int (fun _ _ => rfl)) po_none (po_some (pe_un un_neg pe_int))) (pe_tup (pa_cons (pe_op (Dat.repTQ (K := K) rfl) (pe_ix (Dat.ixT (K := K) rfl) (pe_ix (Dat.ixL (K := K) rfl) (pv 6) pe_int (fun _ _ => rfl)) (pe_un un_neg pe_int) (fun _ _ => rfl)) pe_int) pa_nil))) (pg_sub (pv 6) pe_int set_list)))
      pss_nil)
    (pss_cons (ps_if (pt_cmpR op_ne (pe_callB (Dat.reprQ (K := K) rfl hgd (hu100 hr)) rfl T.b_repr bt_repr (pa_cons (pe_call G__law_told (hr.mono (by omega)) rfl T.D__law_told.g T.D__law_told.F.kp T.D__law_told.b .nil pass0 (pa_cons (pe_ix (Dat.ixL (K := K) rfl) (pv 6) pe_int (fun _ _ => rfl)) (pa_cons (pe_ix (Dat.ixL (K := K) rfl) (pv 6) pe_int (fun _ _ => rfl)) pa_nil))) pa_nil)) (pe_callB (Dat.reprQ (K := K) rfl hgd (hu100 hr)) rfl T.b_repr bt_repr (pa_cons (pe_call G__law_difference (hr.mono (by omega)) rfl T.D__law_difference.g T.D__law_difference.F.kp T.D__law_difference.b .nil pass0 (pa_cons (pe_ix (Dat.ixL (K := K) rfl) (pv 6) pe_int (fun _ _ => rfl)) (pa_cons (pe_ix (Dat.ixL (K := K) rfl) (pv 6) pe_int (fun _ _ => rfl)) pa_nil))) pa_nil)) (nomark _))
      (pss_one (ps_ret pe_bl))
      pss_nil)
    (pss_one (ps_ret (pe_cmpR (Dat.eqDQ (K := K) rfl (hu64 hr)) (pe_call G_difference (hr.mono (by omega)) rfl T.D_difference.g T.D_difference.F.kp T.D_difference.b .nil pass0 (pa_cons (pe_tup (pa_cons (pe_tup (pa_cons (pe_tup (pa_cons (pe_op op_pow pe_int pe_int) (pa_cons pe_int pa_nil))) pa_nil)) pa_nil)) (pa_cons (pe_tup (pa_cons (pe_tup (pa_cons (pe_tup (pa_cons pe_int (pa_cons pe_int pa_nil))) pa_nil)) pa_nil)) pa_nil))) (pe_tup (pa_cons (pe_tup (pa_cons (pe_tup (pa_cons (pe_op op_pow pe_int pe_int) (pa_cons pe_int pa_nil))) pa_nil)) pa_nil)) (nomark _))))))))))))))))), ?_⟩
  rintro as Ω0 P ⟨ns, rfl, hl, h⟩
  refine s_seq (s_asg (e_call (a_cons (e_var rfl (a_nil ⟨ns, rfl, fun p p0 => ?_⟩)))))
  refine s_seqM (fun Γ' Ω' => ∃ (i : Nat) (a s c : Int) (y2 y3 y4 : Option Av), SOk s ∧ Γ' = [some (.scr ns), some (.ptr p), y2, y3, y4, none, none, none, none, none, none, none] ∧ Ω' = put Ω0 p (handL ns i a s c)) ?_ ?_
  · refine s_for (fun as j Γ' Ω' => ∃ (i : Nat) (a s c : Int) (y2 y3 y4 : Option Av), SOk s ∧ Γ' = [some (.scr ns), some (.ptr p), y2, y3, y4, none, none, none, none, none, none, none] ∧ Ω' = put Ω0 p (handL ns i a s c)) ?_
    refine i_rng1 (a_cons (e_cb (a_cons (e_int (a_cons (e_cb (a_cons (e_int (a_cons (e_cb (a_cons (e_var rfl (a_nil (c_lenS (a_nil (c_min2 (a_nil (c_max2 (a_nil ⟨_, rfl, ?_, ⟨0, 0, 0, 0, _, _, _, ⟨by decide, by decide⟩, rfl, rfl⟩, ?_, fun Γ' Ω' h => h⟩)))))))))))))))))))
    · constructor <;> (repeat' split) <;> omega
    · rintro j it Γ' Ω' hit ⟨i, a, s, c, y2, y3, y4, hs, rfl, rfl⟩
      refine g_name (s_seq (s_asg (e_call (a_cons (e_var rfl (a_cons (e_int (a_nil ⟨Ω0, p, 6, ns, i, a, s, c, rfl, rfl, p0, hs, by decide, by decide, fun W i a s c hs o l8 => ?_⟩))))))))
      refine s_seq (s_asg (e_call (a_cons (e_var rfl (a_cons (e_var rfl (a_nil ⟨Ω0, p, W, ns, i, a, s, c, rfl, rfl, p0, hs, o, l8, fun V i a s c hs o2 l16 => ?_⟩)))))))
      refine s_if (t_or (t_not (t_test (e_call (a_cons (e_var rfl (a_cons (e_var rfl (a_nil ⟨W, V, rfl, o, o2, by omega, by omega, ⟨true, rfl, (fun z => by cases z), fun _ => ?_⟩⟩)))))))))
      exact t_not (t_test (e_call (a_cons (e_var rfl (a_cons (e_var rfl (a_nil ⟨W, W, rfl, o, o, by omega, by omega, ⟨true, rfl, (fun z => by cases z), fun _ => s_next ⟨i, a, s, c, _, _, _, hs, rfl, rfl⟩⟩⟩)))))))
  rintro Γ' Ω' ⟨i, a, s, c, y2, y3, y4, hs, rfl, rfl⟩
  -- two rounds of neighbouring lengths
  refine s_seq (s_asg (e_op (e_int (e_drawN rfl hs (by decide) (by decide) fun v i a s c hs v0 v1 => r_I0i ?_))))
  obtain ⟨v, rfl⟩ := Int.eq_ofNat_of_zero_le v0
  obtain ⟨N, eN⟩ : ∃ N : Nat, N = 9 + v := ⟨_, rfl⟩
  rw [show (9 : Int) + ((v : Nat) : Int) = ((N : Nat) : Int) by omega]
  have n9 : 9 ≤ N := by omega
  have n12 : N ≤ 12 := by omega
  clear v0 v1 eN
  refine s_seq (s_asg (e_lc (gn_name (by decide)) (fun D as j acc Ω' => as = [.dat (.int ((N : Nat) : Int)), .dat (.int (((N : Nat) : Int) + 1))] ∧ Ω0 D = none ∧ D ≠ p ∧ acc = (([rnd N, rnd (N + 1)].take j).map webD).map .dat ∧ Ω' = put (put Ω0 D acc) p (handL ns i a s c)) ?_))
  refine i_list (e_lstD (a_cons (e_var rfl (a_cons (e_op (e_var rfl (e_int (r_I0i (a_nil ⟨_, .cons (.cons .nil), rfl, _, rfl, ⟨by show (2 : Nat) ≤ 50000; decide, fun D nD => ⟨?_, fun j x acc Ω' ex hM => ?_, fun acc Ω' hM => ?_⟩⟩⟩)))))))))
  · have np : D ≠ p := fun e => by rw [e, put_same] at nD; cases nD
    rw [put_ne np] at nD
    exact ⟨rfl, nD, np, rfl, Dat.put_comm np.symm⟩
  · obtain ⟨-, nD, np, rfl, rfl⟩ := hM
    obtain ⟨m, m9, m13, rfl, em, hj⟩ : ∃ m : Nat, 9 ≤ m ∧ m ≤ 13 ∧ x = .dat (.int ((m : Nat) : Int)) ∧ [rnd N, rnd (N + 1)][j]? = some (rnd m) ∧ j < 2 := by
      rcases j with _ | _ | j
      · cases ex
        exact ⟨N, by omega, by omega, rfl, rfl, by decide⟩
      · cases ex
        exact ⟨N + 1, by omega, by omega, rfl, rfl, by decide⟩
      · cases ex
    refine ⟨by rw [put_ne np, put_same], by rw [List.length_map, List.length_map, List.length_take]; omega, g_name (t_yes ⟨fun _ => ?_, nofun⟩)⟩
    refine e_then (e_lcM (List.range m) (fun k => .dat (.int (0 + ((k : Nat) : Int)))) (fun k => ndD [((0 : Int), (k + 1) % m)]) (gn_name (by decide)) (by rw [List.length_range]; omega) ?_)
    refine i_rng1 (a_cons (e_var rfl (a_nil ⟨((m : Nat) : Int), rfl, ⟨by omega, by omega⟩, by rw [Int.toNat_natCast]; rfl, fun k Ω' hk _ => g_name ⟨rfl, ?_⟩, r_tupL ?_⟩)))
    · refine e_tupD (a_cons (e_tupD (a_cons (e_int (a_cons (e_op (e_cb (a_cons (e_op (e_var rfl (e_int (r_I0i (a_nil (c_intI (e_var rfl (r_Ii (by show (0 : Int) < ((m : Nat) : Int); omega) (a_nil ⟨_, .cons (.cons .nil), rfl, a_nil ⟨_, .cons .nil, rfl, rfl, ?_⟩⟩)))))))))))))))))
      rw [mod_nat]
      rfl
    · rw [webD_rnd]
      refine ⟨by rw [put_ne np, put_same], rfl, nD, np, ?_, ?_⟩
      · rw [List.take_add_one, em, List.map_append, List.map_append]
        rfl
      · rw [Dat.put_comm np.symm, put_put]
  obtain ⟨-, nD, np, rfl, rfl⟩ := hM
  change SW K _ _ (put (put Ω0 D [.dat (webD (rnd N)), .dat (webD (rnd (N + 1)))]) p (handL ns i a s c)) _
  have gV : ∀ A B, (put (put Ω0 D A) p B) D = some A := fun A B => by rw [put_ne np, put_same]
  refine s_seq (s_asg (e_draw rfl (e_op (e_var rfl (e_int (r_I0i ⟨_, i, a, s, c, rfl, rfl, hs, by omega, by omega, fun t i a s c hs t0 t1 => ?_⟩))))))
  obtain ⟨t, rfl⟩ := Int.eq_ofNat_of_zero_le t0
  have tl : t < N + 1 := by omega
  have lr := rnd_len (N + 1)
  refine s_seq (s_asgG (e_op (e_op (e_slT (e_op (e_var rfl (e_int (r_ixP (gV _ _) rfl ⟨_, rfl, o_no (o_some (e_var rfl ⟨_, rfl, ?_⟩))⟩))))))))
  refine e_tupD (a_cons (e_tupD (a_cons (e_tupD (a_cons (e_drawN rfl hs (by decide) (by decide) fun u i a s c hs u0 u1 => ?_))))))
  refine a_cons (e_op (e_cb (a_cons (e_op (e_var rfl (e_int (r_I0i (a_nil (c_intI (e_op (e_var rfl (e_int (r_I0i (r_Ii (by show (0 : Int) < ((N : Nat) : Int) + 1; omega) (a_nil ⟨_, .cons (.cons .nil), rfl, a_nil ⟨_, .cons .nil, rfl, a_nil ⟨_, .cons .nil, rfl, ?_⟩⟩⟩)))))))))))))))
  refine r_catT ?_ ?_
  · rw [cut_to', List.length_take, List.length_map, lr, List.length_singleton]
    omega
  refine e_slT (e_op (e_var rfl (e_int (r_ixP (gV _ _) rfl ⟨_, rfl, o_some (e_op (e_var rfl (e_int (r_I0i ⟨_, rfl, o_no ?_⟩))))⟩))))
  refine r_catT ?_ ?_
  · rw [cut_to', cut_dr, List.length_append, List.length_take, List.length_drop, List.length_map, lr, List.length_singleton]
    omega
  rw [webD_one]
  have lB := oneN_len (u := u) tl
  have oB : ∀ nd ∈ oneN N t u, NdIn (N + 1) nd ∧ nd.length ≤ 1 := oneN_in u0 u1
  generalize oneN N t u = B at lB oB
  refine g_sub (e_var rfl ⟨D, rfl, e_int ⟨1, _, 1, rfl, gV _ _, rfl, ?_⟩⟩)
  rw [Dat.put_comm np.symm, put_put]
  change SW K _ _ (put (put Ω0 D [.dat (webD (rnd N)), .dat (webD B)]) p (handL ns i a s c)) _
  have oA := rnd_ok (n := N) (by omega) (by omega)
  have oB' : WOk B := wok_of (by omega) (by omega) lB fun nd hnd => (oB nd hnd).1
  refine s_seqM (fun Γ' Ω' => Γ' = [some (.scr ns), some (.ptr p), y2, y3, y4, some (.dat (.int ((N : Nat) : Int))), some (.ptr D), none, none, some (.dat (.int ((t : Nat) : Int))), none, none] ∧ Ω' = put (put Ω0 D [.dat (webD (rnd N)), .dat (webD B)]) p (handL ns i a s c)) ?_ ?_
  · cases hap : apart (rnd N) B with
    | none =>
      have ed : apD (rnd N) B = .none := by unfold apD; rw [hap]
      refine s_if (t_test (e_op (e_call (a_cons (e_op (e_var rfl (e_int (r_ixP (gV _ _) rfl (a_cons (e_op (e_var rfl (e_int (r_ixP (gV _ _) rfl (a_nil ⟨rnd N, B, rfl, oA, oB', fun _ => ?_, fun r hr => by rw [hap] at hr; cases hr⟩))))))))))))))
      refine e_op (e_call (a_cons (e_op (e_var rfl (e_int (r_ixP (gV _ _) rfl (a_cons (e_op (e_var rfl (e_int (r_ixP (gV _ _) rfl (a_nil ⟨rnd N, B, rfl, oA, oB', fun fs => e_int (r_ixT (d := apD (rnd N) B) rfl ?_)⟩))))))))))))
      rw [ed]
      exact r_neD (Lay.none.shaped (by decide)) (Lay.none.shaped (by decide)) ⟨_, rfl, (fun z => absurd z (by decide)), fun _ => s_next ⟨rfl, rfl⟩⟩
    | some r =>
      have ed : apD (rnd N) B = .list (iR r) := by unfold apD; rw [hap]
      refine s_if (t_test (e_op (EW.frz (e_call (a_cons (e_op (e_var rfl (e_int (r_ixP (gV _ _) rfl (a_cons (e_op (e_var rfl (e_int (r_ixP (gV _ _) rfl (a_nil ⟨rnd N, B, rfl, oA, oB', (fun hr => by rw [hap] at hr; cases hr), fun r' hr q nq => ⟨q, iR r', rfl, put_same, ?_⟩⟩)))))))))))))))
      rw [del_put nq]
      rw [hap] at hr
      cases hr
      refine e_op (e_call (a_cons (e_op (e_var rfl (e_int (r_ixP (gV _ _) rfl (a_cons (e_op (e_var rfl (e_int (r_ixP (gV _ _) rfl (a_nil ⟨rnd N, B, rfl, oA, oB', fun fs => e_int (r_ixT (d := apD (rnd N) B) rfl ?_)⟩))))))))))))
      rw [ed]
      exact r_neD ((lay_iR r).shaped (by decide)) ((lay_iR r).shaped (by decide)) ⟨_, rfl, (fun z => absurd z (by rw [eqv_lay (lay_iR r)]; decide)), fun _ => s_next ⟨rfl, rfl⟩⟩
  rintro Γ' Ω' ⟨rfl, rfl⟩
  -- a line whose last weight alone is another one
  refine s_seq (s_asg (e_op (e_int (e_drawN rfl hs (by decide) (by decide) fun v i a s c hs v0 v1 => r_I0i ?_))))
  obtain ⟨v, rfl⟩ := Int.eq_ofNat_of_zero_le v0
  obtain ⟨M, eM⟩ : ∃ M : Nat, M = 61 + v := ⟨_, rfl⟩
  rw [show (61 : Int) + ((v : Nat) : Int) = ((M : Nat) : Int) by omega]
  have m1 : 1 ≤ M := by omega
  have m120 : M ≤ 120 := by omega
  clear v0 v1 eM
  refine s_seq (s_asg (e_then (e_lcM (List.range M) (fun k => .dat (.int (0 + ((k : Nat) : Int)))) (fun k => ndD [((0 : Int), (k + 1) % M)]) (gn_name (by decide)) (by rw [List.length_range]; omega) ?_)))
  refine i_rng1 (a_cons (e_var rfl (a_nil ⟨((M : Nat) : Int), rfl, ⟨by omega, by omega⟩, by rw [Int.toNat_natCast]; rfl, fun k Ω' hk _ => g_name ⟨rfl, ?_⟩, r_tupL ?_⟩)))
  · refine e_tupD (a_cons (e_tupD (a_cons (e_int (a_cons (e_op (e_cb (a_cons (e_op (e_var rfl (e_int (r_I0i (a_nil (c_intI (e_var rfl (r_Ii (by show (0 : Int) < ((M : Nat) : Int); omega) (a_nil ⟨_, .cons (.cons .nil), rfl, a_nil ⟨_, .cons .nil, rfl, rfl, ?_⟩⟩)))))))))))))))))
    rw [mod_nat]
    rfl
  rw [webD_rnd]
  have oL := rnd_ok m1 m120
  have oT := late_ok m1 m120
  refine s_seq (s_asg (e_op (e_slT (e_var rfl ⟨_, rfl, o_no (o_some (e_un (e_int (r_neg ⟨_, rfl, ?_⟩))))⟩))))
  refine e_tupD (a_cons (e_tupD (a_cons (e_tupD (a_cons (e_int (a_cons (e_int (a_nil ⟨_, .cons (.cons .nil), rfl, a_nil ⟨_, .cons .nil, rfl, a_nil ⟨_, .cons .nil, rfl, ?_⟩⟩⟩)))))))))
  refine r_catT ?_ ?_
  · have lm := rnd_len M
    have := cut_m1 (l := (rnd M).map ndD) (by rw [List.length_map, lm]; exact m1)
    rw [this, List.length_take, List.length_map, lm, List.length_singleton]
    omega
  rw [webD_late m1]
  have eZ : (List.replicate ((M : Nat) : Int).toNat [PyData.int 0]).flatten = iR (List.replicate M 0) := by
    rw [Int.toNat_natCast, flat_one]
    unfold iR
    rw [List.map_replicate]
    rfl
  have laZ := lay_iR (List.replicate M 0)
  refine s_seq (s_if (t_or (t_test (e_op (EW.frz (e_call (a_cons (e_var rfl (a_cons (e_var rfl (a_nil ⟨rnd M, late M, rfl, oL, oT, (fun hr => by rw [line_apart m1] at hr; cases hr), fun r' hr q nq => ⟨q, iR r', rfl, put_same, ?_⟩⟩)))))))))))
  rw [del_put nq]
  rw [line_apart m1] at hr
  cases hr
  clear nq
  refine e_op (e_lstD (a_cons (e_int (a_nil ⟨_, .cons .nil, rfl, e_var rfl (r_repL (by omega) (by omega) (by decide) ?_)⟩))))
  rw [eZ]
  refine r_neD (laZ.shaped (by decide)) (laZ.shaped (by decide)) ⟨_, rfl, (fun z => absurd z (by rw [eqv_lay laZ]; decide)), fun _ => ?_⟩
  refine t_test (e_op (EW.frz (e_call (a_cons (e_var rfl (a_cons (e_var rfl (a_nil ⟨late M, rnd M, rfl, oT, oL, (fun hr => by rw [line_apart' m1] at hr; cases hr), fun r' hr q nq => ⟨q, iR r', rfl, put_same, ?_⟩⟩))))))))
  rw [del_put nq]
  rw [line_apart' m1] at hr
  cases hr
  clear nq
  refine e_op (e_lstD (a_cons (e_int (a_nil ⟨_, .cons .nil, rfl, e_var rfl (r_repL (by omega) (by omega) (by decide) ?_)⟩))))
  rw [eZ]
  refine r_neD (laZ.shaped (by decide)) (laZ.shaped (by decide)) ⟨_, rfl, (fun z => absurd z (by rw [eqv_lay laZ]; decide)), fun _ => s_next ?_⟩
  -- the last node of the second round doubled, perhaps
  refine s_seqM (fun Γ' Ω' => ∃ (V : Web) (y8 y10 y11 : Option Av) (i : Nat) (a s c : Int), WOk V ∧ V.length = N + 1 ∧ Γ' = [some (.scr ns), some (.ptr p), y2, y3, y4, some (.dat (.int ((N : Nat) : Int))), some (.ptr D), none, y8, some (.dat (.int ((t : Nat) : Int))), y10, y11] ∧ Ω' = put (put Ω0 D [.dat (webD (rnd N)), .dat (webD V)]) p (handL ns i a s c)) ?_ ?_
  · refine s_if (t_test (e_op (e_drawN rfl hs (by decide) (by decide) fun v i a s c hs v0 v1 => e_int (r_eq rfl ⟨_, rfl, fun _ => ?_, fun _ => s_next ⟨B, _, _, _, i, a, s, c, oB', lB, rfl, rfl⟩⟩))))
    obtain ⟨ini, nd, rfl⟩ : ∃ ini nd, B = ini ++ [nd] := by
      rcases List.eq_nil_or_concat B with rfl | ⟨ini, nd, rfl⟩
      · cases lB
      · exact ⟨ini, nd, List.concat_eq_append ..⟩
    have ond := oB nd (List.mem_append_right _ List.mem_cons_self)
    have ew : webD (ini ++ [nd]) = .tuple (ini.map ndD ++ [ndD nd]) := by
      unfold webD
      rw [List.map_append]
      rfl
    rw [ew]
    refine s_asgG (e_op (e_slT (e_op (e_var rfl (e_int (r_ixP (gV _ _) rfl ⟨_, rfl, o_no (o_some (e_un (e_int (r_neg ⟨_, rfl, ?_⟩))))⟩))))))
    have ci : Dat.cutD (ini.map ndD ++ [ndD nd]) none (some (-1 : Int)) = ini.map ndD := cut_ini
    refine e_tupD (a_cons (e_op (e_op (e_op (e_var rfl (e_int (r_ixP (gV _ _) rfl (e_un (e_int (r_neg (r_ixT (d := ndD nd) at_last (e_int (r_repT (ds := nd.map mvD) ?_ (by decide) (by decide) (by rw [List.length_map]; omega) (a_nil ⟨_, .cons .nil, rfl, r_catT ?_ (g_sub (e_var rfl ⟨D, rfl, e_int ⟨1, _, 1, rfl, gV _ _, rfl, ?_⟩⟩))⟩))))))))))))))
    · have := ond.1.1.1
      intro z
      rw [List.map_eq_nil_iff] at z
      rw [z] at this
      cases this
    · rw [ci, List.length_map, List.length_singleton]
      rw [List.length_append, List.length_singleton] at lB
      omega
    rw [Dat.put_comm np.symm, put_put]
    refine ⟨ini ++ [nd ++ nd], _, _, _, i, a, s, c, wok_of (n := N + 1) (by omega) (by omega) ?_ fun x hx => ?_, ?_, rfl, ?_⟩
    · rw [List.length_append, List.length_singleton] at lB ⊢
      exact lB
    · rcases List.mem_append.mp hx with hx | hx
      · exact (oB x (List.mem_append_left _ hx)).1
      · rw [List.mem_singleton.mp hx]
        refine ⟨by rw [List.length_append]; have := ond.1.1.1; omega, fun m hm => ?_⟩
        rcases List.mem_append.mp hm with hm | hm <;> exact ond.1.2 m hm
    · rw [List.length_append, List.length_singleton] at lB ⊢
      exact lB
    · have ev : webD (ini ++ [nd ++ nd]) = .tuple (Dat.cutD (ini.map ndD ++ [ndD nd]) none (some (-1 : Int)) ++ [.tuple (List.replicate (2 : Int).toNat (nd.map mvD)).flatten]) := by
        have e2 : (List.replicate (2 : Int).toNat (nd.map mvD)).flatten = nd.map mvD ++ nd.map mvD := by
          show nd.map mvD ++ (nd.map mvD ++ []) = _
          rw [List.append_nil]
        rw [ci, e2, ← List.map_append]
        unfold webD
        rw [List.map_append]
        rfl
      rw [ev]
      rfl
  rintro Γ' Ω' ⟨V, y8, y10, y11, i, a, s, c, oV, lV, rfl, rfl⟩
  have sd := shown_dif oA oV
  have nl : (rnd N).length * V.length ≤ 8000 := by
    rw [rnd_len, lV]
    have := Nat.mul_le_mul n12 (show N + 1 ≤ 13 by omega)
    omega
  refine s_seq (s_if (t_test (e_op (e_cb (a_cons (e_call (a_cons (e_op (e_var rfl (e_int (r_ixP (gV _ _) rfl (a_cons (e_op (e_var rfl (e_int (r_ixP (gV _ _) rfl (a_nil ⟨rnd N, V, rfl, oA, oV, a_nil (c_repr sd ?_)⟩)))))))))))))))))
  refine e_cb (a_cons (e_call (a_cons (e_op (e_var rfl (e_int (r_ixP (gV _ _) rfl (a_cons (e_op (e_var rfl (e_int (r_ixP (gV _ _) rfl (a_nil ⟨rnd N, V, rfl, oA, oV, nl, a_nil (c_repr sd (r_ne rfl ⟨_, rfl, (fun z => absurd z (by simp [eqD])), fun _ => s_next ?_⟩))⟩)))))))))))))
  -- two small webs
  refine s_ret (e_op (e_call (a_cons (e_tupD (a_cons (e_tupD (a_cons (e_tupD (a_cons (e_op (e_int (e_int (r_Ii (by exact ⟨by decide, by decide, by decide⟩) (a_cons (e_int (a_nil ⟨_, .cons (.cons .nil), rfl, a_nil ⟨_, .cons .nil, rfl, a_nil ⟨_, .cons .nil, rfl, ?_⟩⟩⟩))))))))))))))))
  refine a_cons (e_tupD (a_cons (e_tupD (a_cons (e_tupD (a_cons (e_int (a_cons (e_int (a_nil ⟨_, .cons (.cons .nil), rfl, a_nil ⟨_, .cons .nil, rfl, a_nil ⟨_, .cons .nil, rfl, ?_⟩⟩⟩))))))))))
  refine a_nil ⟨tinyA, tinyB, rfl, tiny_oA, tiny_oB, (fun e => by rw [tiny_difK] at e; cases e), (fun e => by rw [tiny_difK] at e; cases e), fun _ => ?_⟩
  rw [tiny_dif]
  refine e_tupD (a_cons (e_tupD (a_cons (e_tupD (a_cons (e_op (e_int (e_int (r_Ii (by exact ⟨by decide, by decide, by decide⟩) (a_cons (e_int (a_nil ⟨_, .cons (.cons .nil), rfl, a_nil ⟨_, .cons .nil, rfl, a_nil ⟨_, .cons .nil, rfl, ?_⟩⟩⟩))))))))))))
  refine r_eqD ((lay_web _).shaped (by decide)) ((lay_web tinyA).shaped (by decide)) ?_
  rw [show PyData.eqv (webD tinyA) (.tuple [.tuple [.tuple [.int (10 ^ (6 : Int).toNat), .int 0]]]) = true from eqv_lay (lay_web tinyA)]
  exact h _
/-- the law's own promise, from a plain list of the script -/
theorem spLaw_of {Pw : Addr} (hT : Tb.T (K := K) = [(Pw, pbQ)]) {H : Hp} {a : Addr} {ns : List Int} (hl : ns.length ≤ 63) (hP : H Pw = some (.tbl #[])) (hS : SqL K H a (ns.map V.int)) : spA K spLawA [.ref a] H (fun v _ => v = .bl true) fun _ _ _ => False := by
  have of0 : ∀ b, AH0.Off b := fun b => ⟨rfl, rfl⟩
  have hS' : SqL K (Fz AH0 H) a (ns.map V.int) := by
    rcases hS with (h | ⟨o, h⟩) | h
    · exact .inl (.inl (Fz_to (of0 _) h fun q z => nomatch z))
    · exact .inl (.inr ⟨o, Fz_to (of0 _) h fun q z => nomatch z⟩)
    · exact .inr h
  refine ⟨Fz AH0 H, AH0, [.scr ns], fun x _ => x = .dat (.bool true), ⟨Same.refl _, fun p as z => (by cases z), .nil, by rw [hT]; exact fun p hp => by rw [List.mem_singleton.mp hp]; exact TabS.nil hP, fun p u z => (by cases z)⟩, .cons (.scr hS') .nil, ⟨ns, rfl, hl, fun _ => rfl⟩, fun x v Ω' H' hx _ hv => ?_⟩
  subst hx
  cases hv with | dat hv =>
    cases hv
    rfl
end
end K05

set_option Elab.async false
set_option linter.all false
set_option maxRecDepth 100000
set_option maxHeartbeats 4000000
namespace K05
open PySem PySem.Spec PyProof.Rows L2 Dat LamX NdefX Clo
theorem fng_ok {P : Program} {w : World} {K : PySem.W.Frag} {mg : Str → Option Value} {base : Heap} {k : Nat} {f : Addr} {fd : FuncData} {ps : List Str} {sp : Sp} (F : FnOk P w K mg base CX0 k f fd ps sp) : Grd.FnG P w K mg base CX0 k f fd ps sp :=
  ⟨F.len, fun A outer s H args us vs Q E hr _ e0 hb r h => F.run A outer s H args us vs Q E hr e0 hb r h⟩
theorem defAt_mk {h : Heap} {K : PySem.W.Frag} {mg : Str → Option Value} {x : Str} {st : Stmt} {ps : List Str} {f : Addr} {oc : Value} {od an : Option Addr} {osl : Array (Option Value)} {kV doc pm cdv ct : Value} (X : K.In h) (G : h.Ns mainGlobals mg)
    (a : PySem.W.nsIn K mainGlobals x = some (some (.ref f))) (l : K.lookup f = some ⟨oc, od, .func (PySem.W.fnOf x x (defArgs st) (defBody st) (defScope st) .none kV doc pm an cdv ct), osl⟩) (c : PySem.W.codeIn K cdv x = true) (k : PySem.W.keepIn K (.ref f) = true)
    (hb : ∀ (kV doc pm : Value) (an : Option Addr) (cdv ct : Value) (us : List Value), us.length = ps.length → bindArgs (PySem.W.fnOf x x (defArgs st) (defBody st) (defScope st) .none kV doc pm an cdv ct) ⟨us, []⟩ = pure (ps.zip us)) :
    DefAt K mg x st ps [] f (PySem.W.fnOf x x (defArgs st) (defBody st) (defScope st) .none kV doc pm an cdv ct) :=
  ⟨fun_mk l c k, PySem.W.mg_of X G a, (fun_mk l c k).binds hb⟩
theorem all_mk {l : PySem.W.OpenLaw} {w : World} {K : PySem.W.Frag} {h : Heap} {mg : Str → Option Value} {fa cw Pw : Addr} (X : K.In h) (G : h.Ns mainGlobals mg) (hfa : mg "law" = some (.ref fa))
    {f_search : Addr} {oc_search : Value} {od_search an_search : Option Addr} {sl_search : Array (Option Value)} {kV_search dc_search pm_search cd_search ct_search : Value}
    (a_search : PySem.W.nsIn K mainGlobals "search" = some (some (.ref f_search))) (l_search : K.lookup f_search = some ⟨oc_search, od_search, .func (PySem.W.fnOf "search" "search" (defArgs s_search) (defBody s_search) (defScope s_search) .none kV_search dc_search pm_search an_search cd_search ct_search), sl_search⟩) (c_search : PySem.W.codeIn K cd_search "search" = true) (k_search : PySem.W.keepIn K (.ref f_search) = true)
    {f_walk_back : Addr} {oc_walk_back : Value} {od_walk_back an_walk_back : Option Addr} {sl_walk_back : Array (Option Value)} {kV_walk_back dc_walk_back pm_walk_back cd_walk_back ct_walk_back : Value}
    (a_walk_back : PySem.W.nsIn K mainGlobals "walk_back" = some (some (.ref f_walk_back))) (l_walk_back : K.lookup f_walk_back = some ⟨oc_walk_back, od_walk_back, .func (PySem.W.fnOf "walk_back" "walk_back" (defArgs s_walk_back) (defBody s_walk_back) (defScope s_walk_back) .none kV_walk_back dc_walk_back pm_walk_back an_walk_back cd_walk_back ct_walk_back), sl_walk_back⟩) (c_walk_back : PySem.W.codeIn K cd_walk_back "walk_back" = true) (k_walk_back : PySem.W.keepIn K (.ref f_walk_back) = true)
    {f_is_whole : Addr} {oc_is_whole : Value} {od_is_whole an_is_whole : Option Addr} {sl_is_whole : Array (Option Value)} {kV_is_whole dc_is_whole pm_is_whole cd_is_whole ct_is_whole : Value}
    (a_is_whole : PySem.W.nsIn K mainGlobals "is_whole" = some (some (.ref f_is_whole))) (l_is_whole : K.lookup f_is_whole = some ⟨oc_is_whole, od_is_whole, .func (PySem.W.fnOf "is_whole" "is_whole" (defArgs s_is_whole) (defBody s_is_whole) (defScope s_is_whole) .none kV_is_whole dc_is_whole pm_is_whole an_is_whole cd_is_whole ct_is_whole), sl_is_whole⟩) (c_is_whole : PySem.W.codeIn K cd_is_whole "is_whole" = true) (k_is_whole : PySem.W.keepIn K (.ref f_is_whole) = true)
    {f_is_whole_in : Addr} {oc_is_whole_in : Value} {od_is_whole_in an_is_whole_in : Option Addr} {sl_is_whole_in : Array (Option Value)} {kV_is_whole_in dc_is_whole_in pm_is_whole_in cd_is_whole_in ct_is_whole_in : Value}
    (a_is_whole_in : PySem.W.nsIn K mainGlobals "is_whole_in" = some (some (.ref f_is_whole_in))) (l_is_whole_in : K.lookup f_is_whole_in = some ⟨oc_is_whole_in, od_is_whole_in, .func (PySem.W.fnOf "is_whole_in" "is_whole_in" (defArgs s_is_whole_in) (defBody s_is_whole_in) (defScope s_is_whole_in) .none kV_is_whole_in dc_is_whole_in pm_is_whole_in an_is_whole_in cd_is_whole_in ct_is_whole_in), sl_is_whole_in⟩) (c_is_whole_in : PySem.W.codeIn K cd_is_whole_in "is_whole_in" = true) (k_is_whole_in : PySem.W.keepIn K (.ref f_is_whole_in) = true)
    {f_is_pair : Addr} {oc_is_pair : Value} {od_is_pair an_is_pair : Option Addr} {sl_is_pair : Array (Option Value)} {kV_is_pair dc_is_pair pm_is_pair cd_is_pair ct_is_pair : Value}
    (a_is_pair : PySem.W.nsIn K mainGlobals "is_pair" = some (some (.ref f_is_pair))) (l_is_pair : K.lookup f_is_pair = some ⟨oc_is_pair, od_is_pair, .func (PySem.W.fnOf "is_pair" "is_pair" (defArgs s_is_pair) (defBody s_is_pair) (defScope s_is_pair) .none kV_is_pair dc_is_pair pm_is_pair an_is_pair cd_is_pair ct_is_pair), sl_is_pair⟩) (c_is_pair : PySem.W.codeIn K cd_is_pair "is_pair" = true) (k_is_pair : PySem.W.keepIn K (.ref f_is_pair) = true)
    {f_is_web : Addr} {oc_is_web : Value} {od_is_web an_is_web : Option Addr} {sl_is_web : Array (Option Value)} {kV_is_web dc_is_web pm_is_web cd_is_web ct_is_web : Value}
    (a_is_web : PySem.W.nsIn K mainGlobals "is_web" = some (some (.ref f_is_web))) (l_is_web : K.lookup f_is_web = some ⟨oc_is_web, od_is_web, .func (PySem.W.fnOf "is_web" "is_web" (defArgs s_is_web) (defBody s_is_web) (defScope s_is_web) .none kV_is_web dc_is_web pm_is_web an_is_web cd_is_web ct_is_web), sl_is_web⟩) (c_is_web : PySem.W.codeIn K cd_is_web "is_web" = true) (k_is_web : PySem.W.keepIn K (.ref f_is_web) = true)
    {f_is_node : Addr} {oc_is_node : Value} {od_is_node an_is_node : Option Addr} {sl_is_node : Array (Option Value)} {kV_is_node dc_is_node pm_is_node cd_is_node ct_is_node : Value}
    (a_is_node : PySem.W.nsIn K mainGlobals "is_node" = some (some (.ref f_is_node))) (l_is_node : K.lookup f_is_node = some ⟨oc_is_node, od_is_node, .func (PySem.W.fnOf "is_node" "is_node" (defArgs s_is_node) (defBody s_is_node) (defScope s_is_node) .none kV_is_node dc_is_node pm_is_node an_is_node cd_is_node ct_is_node), sl_is_node⟩) (c_is_node : PySem.W.codeIn K cd_is_node "is_node" = true) (k_is_node : PySem.W.keepIn K (.ref f_is_node) = true)
    {f_is_move : Addr} {oc_is_move : Value} {od_is_move an_is_move : Option Addr} {sl_is_move : Array (Option Value)} {kV_is_move dc_is_move pm_is_move cd_is_move ct_is_move : Value}
    (a_is_move : PySem.W.nsIn K mainGlobals "is_move" = some (some (.ref f_is_move))) (l_is_move : K.lookup f_is_move = some ⟨oc_is_move, od_is_move, .func (PySem.W.fnOf "is_move" "is_move" (defArgs s_is_move) (defBody s_is_move) (defScope s_is_move) .none kV_is_move dc_is_move pm_is_move an_is_move cd_is_move ct_is_move), sl_is_move⟩) (c_is_move : PySem.W.codeIn K cd_is_move "is_move" = true) (k_is_move : PySem.W.keepIn K (.ref f_is_move) = true)
    {f_check_web : Addr} {oc_check_web : Value} {od_check_web an_check_web : Option Addr} {sl_check_web : Array (Option Value)} {kV_check_web dc_check_web pm_check_web cd_check_web ct_check_web : Value}
    (a_check_web : PySem.W.nsIn K mainGlobals "check_web" = some (some (.ref f_check_web))) (l_check_web : K.lookup f_check_web = some ⟨oc_check_web, od_check_web, .func (PySem.W.fnOf "check_web" "check_web" (defArgs s_check_web) (defBody s_check_web) (defScope s_check_web) .none kV_check_web dc_check_web pm_check_web an_check_web cd_check_web ct_check_web), sl_check_web⟩) (c_check_web : PySem.W.codeIn K cd_check_web "check_web" = true) (k_check_web : PySem.W.keepIn K (.ref f_check_web) = true)
    {f_walk_apart : Addr} {oc_walk_apart : Value} {od_walk_apart an_walk_apart : Option Addr} {sl_walk_apart : Array (Option Value)} {kV_walk_apart dc_walk_apart pm_walk_apart cd_walk_apart ct_walk_apart : Value}
    (a_walk_apart : PySem.W.nsIn K mainGlobals "walk_apart" = some (some (.ref f_walk_apart))) (l_walk_apart : K.lookup f_walk_apart = some ⟨oc_walk_apart, od_walk_apart, .func (PySem.W.fnOf "walk_apart" "walk_apart" (defArgs s_walk_apart) (defBody s_walk_apart) (defScope s_walk_apart) .none kV_walk_apart dc_walk_apart pm_walk_apart an_walk_apart cd_walk_apart ct_walk_apart), sl_walk_apart⟩) (c_walk_apart : PySem.W.codeIn K cd_walk_apart "walk_apart" = true) (k_walk_apart : PySem.W.keepIn K (.ref f_walk_apart) = true)
    {f_pair_steps : Addr} {oc_pair_steps : Value} {od_pair_steps an_pair_steps : Option Addr} {sl_pair_steps : Array (Option Value)} {kV_pair_steps dc_pair_steps pm_pair_steps ct_pair_steps : Value}
    (a_pair_steps : PySem.W.nsIn K mainGlobals "pair_steps" = some (some (.ref f_pair_steps))) (l_pair_steps : K.lookup f_pair_steps = some ⟨oc_pair_steps, od_pair_steps, .func (PySem.W.fnOf "pair_steps" "pair_steps" (defArgs s_pair_steps) (defBody s_pair_steps) (defScope s_pair_steps) .none kV_pair_steps dc_pair_steps pm_pair_steps an_pair_steps (.ref cw) ct_pair_steps), sl_pair_steps⟩) (c_pair_steps : PySem.W.codeIn K (.ref cw) "pair_steps" = true) (k_pair_steps : PySem.W.keepIn K (.ref f_pair_steps) = true)
    {f_index_apart : Addr} {oc_index_apart : Value} {od_index_apart an_index_apart : Option Addr} {sl_index_apart : Array (Option Value)} {kV_index_apart dc_index_apart pm_index_apart cd_index_apart ct_index_apart : Value}
    (a_index_apart : PySem.W.nsIn K mainGlobals "index_apart" = some (some (.ref f_index_apart))) (l_index_apart : K.lookup f_index_apart = some ⟨oc_index_apart, od_index_apart, .func (PySem.W.fnOf "index_apart" "index_apart" (defArgs s_index_apart) (defBody s_index_apart) (defScope s_index_apart) .none kV_index_apart dc_index_apart pm_index_apart an_index_apart cd_index_apart ct_index_apart), sl_index_apart⟩) (c_index_apart : PySem.W.codeIn K cd_index_apart "index_apart" = true) (k_index_apart : PySem.W.keepIn K (.ref f_index_apart) = true)
    {f_difference : Addr} {oc_difference : Value} {od_difference an_difference : Option Addr} {sl_difference : Array (Option Value)} {kV_difference dc_difference pm_difference cd_difference ct_difference : Value}
    (a_difference : PySem.W.nsIn K mainGlobals "difference" = some (some (.ref f_difference))) (l_difference : K.lookup f_difference = some ⟨oc_difference, od_difference, .func (PySem.W.fnOf "difference" "difference" (defArgs s_difference) (defBody s_difference) (defScope s_difference) .none kV_difference dc_difference pm_difference an_difference cd_difference ct_difference), sl_difference⟩) (c_difference : PySem.W.codeIn K cd_difference "difference" = true) (k_difference : PySem.W.keepIn K (.ref f_difference) = true)
    {f_node_less : Addr} {oc_node_less : Value} {od_node_less an_node_less : Option Addr} {sl_node_less : Array (Option Value)} {kV_node_less dc_node_less pm_node_less cd_node_less ct_node_less : Value}
    (a_node_less : PySem.W.nsIn K mainGlobals "node_less" = some (some (.ref f_node_less))) (l_node_less : K.lookup f_node_less = some ⟨oc_node_less, od_node_less, .func (PySem.W.fnOf "node_less" "node_less" (defArgs s_node_less) (defBody s_node_less) (defScope s_node_less) .none kV_node_less dc_node_less pm_node_less an_node_less cd_node_less ct_node_less), sl_node_less⟩) (c_node_less : PySem.W.codeIn K cd_node_less "node_less" = true) (k_node_less : PySem.W.keepIn K (.ref f_node_less) = true)
    {f__law_hand : Addr} {oc__law_hand : Value} {od__law_hand an__law_hand : Option Addr} {sl__law_hand : Array (Option Value)} {kV__law_hand dc__law_hand pm__law_hand cd__law_hand ct__law_hand : Value}
    (a__law_hand : PySem.W.nsIn K mainGlobals "_law_hand" = some (some (.ref f__law_hand))) (l__law_hand : K.lookup f__law_hand = some ⟨oc__law_hand, od__law_hand, .func (PySem.W.fnOf "_law_hand" "_law_hand" (defArgs s__law_hand) (defBody s__law_hand) (defScope s__law_hand) .none kV__law_hand dc__law_hand pm__law_hand an__law_hand cd__law_hand ct__law_hand), sl__law_hand⟩) (c__law_hand : PySem.W.codeIn K cd__law_hand "_law_hand" = true) (k__law_hand : PySem.W.keepIn K (.ref f__law_hand) = true)
    {f__law_draw : Addr} {oc__law_draw : Value} {od__law_draw an__law_draw : Option Addr} {sl__law_draw : Array (Option Value)} {kV__law_draw dc__law_draw pm__law_draw cd__law_draw ct__law_draw : Value}
    (a__law_draw : PySem.W.nsIn K mainGlobals "_law_draw" = some (some (.ref f__law_draw))) (l__law_draw : K.lookup f__law_draw = some ⟨oc__law_draw, od__law_draw, .func (PySem.W.fnOf "_law_draw" "_law_draw" (defArgs s__law_draw) (defBody s__law_draw) (defScope s__law_draw) .none kV__law_draw dc__law_draw pm__law_draw an__law_draw cd__law_draw ct__law_draw), sl__law_draw⟩) (c__law_draw : PySem.W.codeIn K cd__law_draw "_law_draw" = true) (k__law_draw : PySem.W.keepIn K (.ref f__law_draw) = true)
    {f__law_web : Addr} {oc__law_web : Value} {od__law_web an__law_web : Option Addr} {sl__law_web : Array (Option Value)} {kV__law_web dc__law_web pm__law_web cd__law_web ct__law_web : Value}
    (a__law_web : PySem.W.nsIn K mainGlobals "_law_web" = some (some (.ref f__law_web))) (l__law_web : K.lookup f__law_web = some ⟨oc__law_web, od__law_web, .func (PySem.W.fnOf "_law_web" "_law_web" (defArgs s__law_web) (defBody s__law_web) (defScope s__law_web) .none kV__law_web dc__law_web pm__law_web an__law_web cd__law_web ct__law_web), sl__law_web⟩) (c__law_web : PySem.W.codeIn K cd__law_web "_law_web" = true) (k__law_web : PySem.W.keepIn K (.ref f__law_web) = true)
    {f__law_sum : Addr} {oc__law_sum : Value} {od__law_sum an__law_sum : Option Addr} {sl__law_sum : Array (Option Value)} {kV__law_sum dc__law_sum pm__law_sum cd__law_sum ct__law_sum : Value}
    (a__law_sum : PySem.W.nsIn K mainGlobals "_law_sum" = some (some (.ref f__law_sum))) (l__law_sum : K.lookup f__law_sum = some ⟨oc__law_sum, od__law_sum, .func (PySem.W.fnOf "_law_sum" "_law_sum" (defArgs s__law_sum) (defBody s__law_sum) (defScope s__law_sum) .none kV__law_sum dc__law_sum pm__law_sum an__law_sum cd__law_sum ct__law_sum), sl__law_sum⟩) (c__law_sum : PySem.W.codeIn K cd__law_sum "_law_sum" = true) (k__law_sum : PySem.W.keepIn K (.ref f__law_sum) = true)
    {f__law_other : Addr} {oc__law_other : Value} {od__law_other an__law_other : Option Addr} {sl__law_other : Array (Option Value)} {kV__law_other dc__law_other pm__law_other cd__law_other ct__law_other : Value}
    (a__law_other : PySem.W.nsIn K mainGlobals "_law_other" = some (some (.ref f__law_other))) (l__law_other : K.lookup f__law_other = some ⟨oc__law_other, od__law_other, .func (PySem.W.fnOf "_law_other" "_law_other" (defArgs s__law_other) (defBody s__law_other) (defScope s__law_other) .none kV__law_other dc__law_other pm__law_other an__law_other cd__law_other ct__law_other), sl__law_other⟩) (c__law_other : PySem.W.codeIn K cd__law_other "_law_other" = true) (k__law_other : PySem.W.keepIn K (.ref f__law_other) = true)
    {f__law_pairs : Addr} {oc__law_pairs : Value} {od__law_pairs an__law_pairs : Option Addr} {sl__law_pairs : Array (Option Value)} {kV__law_pairs dc__law_pairs pm__law_pairs cd__law_pairs ct__law_pairs : Value}
    (a__law_pairs : PySem.W.nsIn K mainGlobals "_law_pairs" = some (some (.ref f__law_pairs))) (l__law_pairs : K.lookup f__law_pairs = some ⟨oc__law_pairs, od__law_pairs, .func (PySem.W.fnOf "_law_pairs" "_law_pairs" (defArgs s__law_pairs) (defBody s__law_pairs) (defScope s__law_pairs) .none kV__law_pairs dc__law_pairs pm__law_pairs an__law_pairs cd__law_pairs ct__law_pairs), sl__law_pairs⟩) (c__law_pairs : PySem.W.codeIn K cd__law_pairs "_law_pairs" = true) (k__law_pairs : PySem.W.keepIn K (.ref f__law_pairs) = true)
    {f__law_difference : Addr} {oc__law_difference : Value} {od__law_difference an__law_difference : Option Addr} {sl__law_difference : Array (Option Value)} {kV__law_difference dc__law_difference pm__law_difference cd__law_difference ct__law_difference : Value}
    (a__law_difference : PySem.W.nsIn K mainGlobals "_law_difference" = some (some (.ref f__law_difference))) (l__law_difference : K.lookup f__law_difference = some ⟨oc__law_difference, od__law_difference, .func (PySem.W.fnOf "_law_difference" "_law_difference" (defArgs s__law_difference) (defBody s__law_difference) (defScope s__law_difference) .none kV__law_difference dc__law_difference pm__law_difference an__law_difference cd__law_difference ct__law_difference), sl__law_difference⟩) (c__law_difference : PySem.W.codeIn K cd__law_difference "_law_difference" = true) (k__law_difference : PySem.W.keepIn K (.ref f__law_difference) = true)
    {f__law_told : Addr} {oc__law_told : Value} {od__law_told an__law_told : Option Addr} {sl__law_told : Array (Option Value)} {kV__law_told dc__law_told pm__law_told cd__law_told ct__law_told : Value}
    (a__law_told : PySem.W.nsIn K mainGlobals "_law_told" = some (some (.ref f__law_told))) (l__law_told : K.lookup f__law_told = some ⟨oc__law_told, od__law_told, .func (PySem.W.fnOf "_law_told" "_law_told" (defArgs s__law_told) (defBody s__law_told) (defScope s__law_told) .none kV__law_told dc__law_told pm__law_told an__law_told cd__law_told ct__law_told), sl__law_told⟩) (c__law_told : PySem.W.codeIn K cd__law_told "_law_told" = true) (k__law_told : PySem.W.keepIn K (.ref f__law_told) = true)
    {f__law_right : Addr} {oc__law_right : Value} {od__law_right an__law_right : Option Addr} {sl__law_right : Array (Option Value)} {kV__law_right dc__law_right pm__law_right cd__law_right ct__law_right : Value}
    (a__law_right : PySem.W.nsIn K mainGlobals "_law_right" = some (some (.ref f__law_right))) (l__law_right : K.lookup f__law_right = some ⟨oc__law_right, od__law_right, .func (PySem.W.fnOf "_law_right" "_law_right" (defArgs s__law_right) (defBody s__law_right) (defScope s__law_right) .none kV__law_right dc__law_right pm__law_right an__law_right cd__law_right ct__law_right), sl__law_right⟩) (c__law_right : PySem.W.codeIn K cd__law_right "_law_right" = true) (k__law_right : PySem.W.keepIn K (.ref f__law_right) = true)
    {f_law : Addr} {oc_law : Value} {od_law an_law : Option Addr} {sl_law : Array (Option Value)} {kV_law dc_law pm_law cd_law ct_law : Value}
    (a_law : PySem.W.nsIn K mainGlobals "law" = some (some (.ref f_law))) (l_law : K.lookup f_law = some ⟨oc_law, od_law, .func (PySem.W.fnOf "law" "law" (defArgs s_law) (defBody s_law) (defScope s_law) .none kV_law dc_law pm_law an_law cd_law ct_law), sl_law⟩) (c_law : PySem.W.codeIn K cd_law "law" = true) (k_law : PySem.W.keepIn K (.ref f_law) = true)
    (z_len : PySem.W.nsIn K mainGlobals "len" = some none)
    (z_isinstance : PySem.W.nsIn K mainGlobals "isinstance" = some none)
    (z_abs : PySem.W.nsIn K mainGlobals "abs" = some none)
    (z_all : PySem.W.nsIn K mainGlobals "all" = some none)
    (z_max : PySem.W.nsIn K mainGlobals "max" = some none)
    (z_min : PySem.W.nsIn K mainGlobals "min" = some none)
    (z_any : PySem.W.nsIn K mainGlobals "any" = some none)
    (z_sorted : PySem.W.nsIn K mainGlobals "sorted" = some none)
    (z_repr : PySem.W.nsIn K mainGlobals "repr" = some none)
    (z_int : PySem.W.nsIn K mainGlobals "int" = some none)
    (z_bool : PySem.W.nsIn K mainGlobals "bool" = some none)
    (z_tuple : PySem.W.nsIn K mainGlobals "tuple" = some none)
    (z_list : PySem.W.nsIn K mainGlobals "list" = some none)
    (z_range : PySem.W.nsIn K mainGlobals "range" = some none)
    (z_enumerate : PySem.W.nsIn K mainGlobals "enumerate" = some none)
    (z_zip : PySem.W.nsIn K mainGlobals "zip" = some none)
    {t_MOST_NODES : Tok} (g_MOST_NODES : PySem.W.nsIn K mainGlobals "MOST_NODES" = some (some (.int 120 t_MOST_NODES)))
    {t_MOST_MOVES : Tok} (g_MOST_MOVES : PySem.W.nsIn K mainGlobals "MOST_MOVES" = some (some (.int 12 t_MOST_MOVES)))
    {t_MOST_WEIGHT : Tok} (g_MOST_WEIGHT : PySem.W.nsIn K mainGlobals "MOST_WEIGHT" = some (some (.int 1000000 t_MOST_WEIGHT)))
    {x_ParlourError : Addr}
    (gx_ParlourError : PySem.W.nsIn K mainGlobals "ParlourError" = some (some (.ref x_ParlourError)))
    {x_BadWeb : Addr}
    (gx_BadWeb : PySem.W.nsIn K mainGlobals "BadWeb" = some (some (.ref x_BadWeb)))
    (q1_BadWeb : PySem.W.excIn K x_BadWeb PySem.HandSPX.veTail "ValueError.__new__" = true)
    (q2_BadWeb : PySem.W.keepIn K (.ref x_BadWeb) = true)
    (q3_BadWeb : PySem.W.subIn K (.ref x_BadWeb) (.type "BaseException") = some true)
    (q4_BadWeb : PySem.W.typeIn K (.ref x_BadWeb) = some (.type "type"))
    {x_TooMany : Addr}
    (gx_TooMany : PySem.W.nsIn K mainGlobals "TooMany" = some (some (.ref x_TooMany)))
    (q1_TooMany : PySem.W.excIn K x_TooMany PySem.HandSPX.veTail "ValueError.__new__" = true)
    (q2_TooMany : PySem.W.keepIn K (.ref x_TooMany) = true)
    (q3_TooMany : PySem.W.subIn K (.ref x_TooMany) (.type "BaseException") = some true)
    (q4_TooMany : PySem.W.typeIn K (.ref x_TooMany) = some (.type "type"))
    (e1_BadWeb : PySem.W.findIn K (.ref x_BadWeb) "__getattribute__" = some (some (.builtin "BaseException.__getattribute__")))
    (e2_BadWeb : PySem.W.findIn K (.ref x_BadWeb) "__getattr__" = some none)
    (ex_BadWeb : PySem.W.subIn K (.ref x_BadWeb) (.type "BaseException") = some true)
    (e4_BadWeb : PySem.W.hasDictIn K x_BadWeb = true)
    (e5_BadWeb : PySem.W.findIn K (.ref x_BadWeb) "__class__" = some (some (.builtin "object.__class__")))
    (e8_BadWeb : PySem.W.mroIn K x_BadWeb (.type "object") = some true)
    (hp_BadWeb : PySem.W.exmOne K (.ref x_BadWeb) (.ref x_ParlourError) = some true)
    (e1_TooMany : PySem.W.findIn K (.ref x_TooMany) "__getattribute__" = some (some (.builtin "BaseException.__getattribute__")))
    (e2_TooMany : PySem.W.findIn K (.ref x_TooMany) "__getattr__" = some none)
    (ex_TooMany : PySem.W.subIn K (.ref x_TooMany) (.type "BaseException") = some true)
    (e4_TooMany : PySem.W.hasDictIn K x_TooMany = true)
    (e5_TooMany : PySem.W.findIn K (.ref x_TooMany) "__class__" = some (some (.builtin "object.__class__")))
    (e8_TooMany : PySem.W.mroIn K x_TooMany (.type "object") = some true)
    (hp_TooMany : PySem.W.exmOne K (.ref x_TooMany) (.ref x_ParlourError) = some true)
    (kit_WW : PySem.W.kitOne K (.ref x_BadWeb) (.ref x_BadWeb) = some true)
    (kit_WT : PySem.W.kitOne K (.ref x_BadWeb) (.ref x_TooMany) = some false)
    (kit_TW : PySem.W.kitOne K (.ref x_TooMany) (.ref x_BadWeb) = some false)
    (kit_TT : PySem.W.kitOne K (.ref x_TooMany) (.ref x_TooMany) = some true)
    (e6 : PySem.W.specialIn K (.builtin "object.__class__") "__get__" = some (some (.builtin "getset_descriptor.__get__")))
    (e7 : PySem.W.takesIn K (.builtin "object.__class__") = some true)
    (pc : PySem.W.codeHdIn K cw Pw = true) (pn : K.lookup Pw = none) (pt : h.get? Pw = some { cls := .none, data := .fields #[] }) :
    ∃ (fd : FuncData) (cw Pw : Addr) (sp : Sp), h.get? Pw = some { cls := .none, data := .fields #[] } ∧ K.lookup Pw = none ∧ PySem.W.CodeHd h cw Pw ∧ (∀ (s : Shared) (u : Value), BindsTo s fd ⟨[u], []⟩ [("_law_script", u)]) ∧
        (∀ (H : Hp) (a : Addr) (ns : List Int), ns.length ≤ 63 → H Pw = some (.tbl #[]) → SqL K H a (ns.map V.int) → sp [.ref a] H (fun v _ => v = .bl true) fun _ _ _ => False) ∧
        ∀ base : Heap, K.In base → base.Ns mainGlobals mg → TabB base mg cw Pw → Grd.FnG l.prog w K mg base CX0 10 fa fd ["_law_script"] sp := by
  have e := hfa.symm.trans (PySem.W.mg_of X G a_law)
  cases e
  have D_search := defAt_mk (st := s_search) (ps := ["start", "leads"]) X G a_search l_search c_search k_search (fun _ _ _ _ _ _ us hl => match us, hl with | [_, _], _ => rfl)
  have D_walk_back := defAt_mk (st := s_walk_back) (ps := ["steps", "place"]) X G a_walk_back l_walk_back c_walk_back k_walk_back (fun _ _ _ _ _ _ us hl => match us, hl with | [_, _], _ => rfl)
  have D_is_whole := defAt_mk (st := s_is_whole) (ps := ["thing"]) X G a_is_whole l_is_whole c_is_whole k_is_whole (fun _ _ _ _ _ _ us hl => match us, hl with | [_], _ => rfl)
  have D_is_whole_in := defAt_mk (st := s_is_whole_in) (ps := ["thing", "low", "high"]) X G a_is_whole_in l_is_whole_in c_is_whole_in k_is_whole_in (fun _ _ _ _ _ _ us hl => match us, hl with | [_, _, _], _ => rfl)
  have D_is_pair := defAt_mk (st := s_is_pair) (ps := ["thing"]) X G a_is_pair l_is_pair c_is_pair k_is_pair (fun _ _ _ _ _ _ us hl => match us, hl with | [_], _ => rfl)
  have D_is_web := defAt_mk (st := s_is_web) (ps := ["thing"]) X G a_is_web l_is_web c_is_web k_is_web (fun _ _ _ _ _ _ us hl => match us, hl with | [_], _ => rfl)
  have D_is_node := defAt_mk (st := s_is_node) (ps := ["thing", "size"]) X G a_is_node l_is_node c_is_node k_is_node (fun _ _ _ _ _ _ us hl => match us, hl with | [_, _], _ => rfl)
  have D_is_move := defAt_mk (st := s_is_move) (ps := ["thing", "size"]) X G a_is_move l_is_move c_is_move k_is_move (fun _ _ _ _ _ _ us hl => match us, hl with | [_, _], _ => rfl)
  have D_check_web := defAt_mk (st := s_check_web) (ps := ["thing"]) X G a_check_web l_check_web c_check_web k_check_web (fun _ _ _ _ _ _ us hl => match us, hl with | [_], _ => rfl)
  have D_walk_apart := defAt_mk (st := s_walk_apart) (ps := ["web", "other"]) X G a_walk_apart l_walk_apart c_walk_apart k_walk_apart (fun _ _ _ _ _ _ us hl => match us, hl with | [_, _], _ => rfl)
  have D_index_apart := defAt_mk (st := s_index_apart) (ps := ["moves", "others"]) X G a_index_apart l_index_apart c_index_apart k_index_apart (fun _ _ _ _ _ _ us hl => match us, hl with | [_, _], _ => rfl)
  have D_difference := defAt_mk (st := s_difference) (ps := ["web", "other"]) X G a_difference l_difference c_difference k_difference (fun _ _ _ _ _ _ us hl => match us, hl with | [_, _], _ => rfl)
  have D_node_less := defAt_mk (st := s_node_less) (ps := ["moves", "others", "places"]) X G a_node_less l_node_less c_node_less k_node_less (fun _ _ _ _ _ _ us hl => match us, hl with | [_, _, _], _ => rfl)
  have D__law_hand := defAt_mk (st := s__law_hand) (ps := ["_law_script"]) X G a__law_hand l__law_hand c__law_hand k__law_hand (fun _ _ _ _ _ _ us hl => match us, hl with | [_], _ => rfl)
  have D__law_draw := defAt_mk (st := s__law_draw) (ps := ["_law_hand_here", "_law_size"]) X G a__law_draw l__law_draw c__law_draw k__law_draw (fun _ _ _ _ _ _ us hl => match us, hl with | [_, _], _ => rfl)
  have D__law_web := defAt_mk (st := s__law_web) (ps := ["_law_hand_here", "_law_most"]) X G a__law_web l__law_web c__law_web k__law_web (fun _ _ _ _ _ _ us hl => match us, hl with | [_, _], _ => rfl)
  have D__law_sum := defAt_mk (st := s__law_sum) (ps := ["_law_net", "_law_walk_here"]) X G a__law_sum l__law_sum c__law_sum k__law_sum (fun _ _ _ _ _ _ us hl => match us, hl with | [_, _], _ => rfl)
  have D__law_other := defAt_mk (st := s__law_other) (ps := ["_law_hand_here", "_law_net"]) X G a__law_other l__law_other c__law_other k__law_other (fun _ _ _ _ _ _ us hl => match us, hl with | [_, _], _ => rfl)
  have D__law_pairs := defAt_mk (st := s__law_pairs) (ps := ["_law_net", "_law_twin"]) X G a__law_pairs l__law_pairs c__law_pairs k__law_pairs (fun _ _ _ _ _ _ us hl => match us, hl with | [_, _], _ => rfl)
  have D__law_difference := defAt_mk (st := s__law_difference) (ps := ["_law_net", "_law_twin"]) X G a__law_difference l__law_difference c__law_difference k__law_difference (fun _ _ _ _ _ _ us hl => match us, hl with | [_, _], _ => rfl)
  have D__law_told := defAt_mk (st := s__law_told) (ps := ["_law_net", "_law_twin"]) X G a__law_told l__law_told c__law_told k__law_told (fun _ _ _ _ _ _ us hl => match us, hl with | [_, _], _ => rfl)
  have D__law_right := defAt_mk (st := s__law_right) (ps := ["_law_net", "_law_twin"]) X G a__law_right l__law_right c__law_right k__law_right (fun _ _ _ _ _ _ us hl => match us, hl with | [_, _], _ => rfl)
  have D0_pair_steps := defAt_mk (st := s_pair_steps) (ps := ["web", "other"]) X G a_pair_steps l_pair_steps c_pair_steps k_pair_steps (fun _ _ _ _ _ _ us hl => match us, hl with | [_, _], _ => rfl)
  have D_pair_steps : DefC K mg "pair_steps" s_pair_steps ["web", "other"] [] f_pair_steps _ cw := ⟨⟨_, _, _, _, _, _, _, _, _, rfl, l_pair_steps, c_pair_steps⟩, PySem.W.mg_of X G a_pair_steps, k_pair_steps, [], .nil, D0_pair_steps.b⟩
  let T : Top l.prog K mg := {
    f_search := _, d_search := _, D_search := D_search,
    f_walk_back := _, d_walk_back := _, D_walk_back := D_walk_back,
    f_is_whole := _, d_is_whole := _, D_is_whole := D_is_whole,
    f_is_whole_in := _, d_is_whole_in := _, D_is_whole_in := D_is_whole_in,
    f_is_pair := _, d_is_pair := _, D_is_pair := D_is_pair,
    f_is_web := _, d_is_web := _, D_is_web := D_is_web,
    f_is_node := _, d_is_node := _, D_is_node := D_is_node,
    f_is_move := _, d_is_move := _, D_is_move := D_is_move,
    f_check_web := _, d_check_web := _, D_check_web := D_check_web,
    f_walk_apart := _, d_walk_apart := _, D_walk_apart := D_walk_apart,
    f_pair_steps := _, d_pair_steps := _, D_pair_steps := D_pair_steps, cw := cw,
    f_index_apart := _, d_index_apart := _, D_index_apart := D_index_apart,
    f_difference := _, d_difference := _, D_difference := D_difference,
    f_node_less := _, d_node_less := _, D_node_less := D_node_less,
    f__law_hand := _, d__law_hand := _, D__law_hand := D__law_hand,
    f__law_draw := _, d__law_draw := _, D__law_draw := D__law_draw,
    f__law_web := _, d__law_web := _, D__law_web := D__law_web,
    f__law_sum := _, d__law_sum := _, D__law_sum := D__law_sum,
    f__law_other := _, d__law_other := _, D__law_other := D__law_other,
    f__law_pairs := _, d__law_pairs := _, D__law_pairs := D__law_pairs,
    f__law_difference := _, d__law_difference := _, D__law_difference := D__law_difference,
    f__law_told := _, d__law_told := _, D__law_told := D__law_told,
    f__law_right := _, d__law_right := _, D__law_right := D__law_right,
    b_len := PySem.W.mg_none_of X G z_len,
    b_isinstance := PySem.W.mg_none_of X G z_isinstance,
    b_abs := PySem.W.mg_none_of X G z_abs,
    b_all := PySem.W.mg_none_of X G z_all,
    b_max := PySem.W.mg_none_of X G z_max,
    b_min := PySem.W.mg_none_of X G z_min,
    b_any := PySem.W.mg_none_of X G z_any,
    b_sorted := PySem.W.mg_none_of X G z_sorted,
    b_repr := PySem.W.mg_none_of X G z_repr,
    b_int := PySem.W.mg_none_of X G z_int,
    b_bool := PySem.W.mg_none_of X G z_bool,
    b_tuple := PySem.W.mg_none_of X G z_tuple,
    b_list := PySem.W.mg_none_of X G z_list,
    b_range := PySem.W.mg_none_of X G z_range,
    b_enumerate := PySem.W.mg_none_of X G z_enumerate,
    b_zip := PySem.W.mg_none_of X G z_zip,
    t_MOST_NODES := _, c_MOST_NODES := PySem.W.mg_of X G g_MOST_NODES,
    t_MOST_MOVES := _, c_MOST_MOVES := PySem.W.mg_of X G g_MOST_MOVES,
    t_MOST_WEIGHT := _, c_MOST_WEIGHT := PySem.W.mg_of X G g_MOST_WEIGHT,
    KN_walk_apart__other_web := ⟨fun s us ws _ l1 l2 => match us, ws, l1, l2 with | [], [_, _], _, _ => .of_eq rfl, fun _ h => kw_vals h _⟩,
    KN_difference__other_web := ⟨fun s us ws _ l1 l2 => match us, ws, l1, l2 with | [], [_, _], _, _ => .of_eq rfl, fun _ h => kw_vals h _⟩,
    x_BadWeb := _, Y_BadWeb := ⟨q1_BadWeb, PySem.W.mg_of X G gx_BadWeb, q2_BadWeb, q3_BadWeb, q4_BadWeb⟩,
    x_TooMany := _, Y_TooMany := ⟨q1_TooMany, PySem.W.mg_of X G gx_TooMany, q2_TooMany, q3_TooMany, q4_TooMany⟩,
    x_ParlourError := _, m_ParlourError := PySem.W.mg_of X G gx_ParlourError,
    E_BadWeb := ⟨e1_BadWeb, e2_BadWeb, ex_BadWeb, e4_BadWeb, e5_BadWeb, e6, e7, e8_BadWeb⟩, h_BadWeb := hp_BadWeb,
    E_TooMany := ⟨e1_TooMany, e2_TooMany, ex_TooMany, e4_TooMany, e5_TooMany, e6, e7, e8_TooMany⟩, h_TooMany := hp_TooMany,
    i_WW := kit_WW,
    i_WT := kit_WT,
    i_TW := kit_TW,
    i_TT := kit_TT }
  letI : Tb K := ⟨[(Pw, pbQ)]⟩
  have hT : Tb.T (K := K) = [(Pw, pbQ)] := rfl
  exact ⟨PySem.W.fnOf "law" "law" (defArgs s_law) (defBody s_law) (defScope s_law) .none kV_law dc_law pm_law an_law cd_law ct_law, cw, Pw, spA K spLawA, pt, pn, PySem.W.codeHd_of_K X pc, fun s v => .of_eq rfl, fun H a ns hl hP hS => spLaw_of hT hl hP hS, fun base _ _ TB => ok_law T TB hT (fun_mk (st := s_law) l_law c_law k_law)⟩
end K05
open PySem PySem.W PyProof.Rows
set_option maxRecDepth 100000 in
set_option maxHeartbeats 0 in
theorem PySem.Challenge.cw_parlourday_k05_walks_that_part_two_webs_holds : PySem.Challenge.rw_parlourday_k05_walks_that_part_two_webs.Holds := by
  w_on; o_law; k_head; (case hw => w_witness2)
  k_fill
  refine Grd.walk_ofG (l := PySem.Challenge.rw_parlourday_k05_walks_that_part_two_webs) (n := 63) (k := 10) (x := "_law_script") rfl (by decide) rfl ⟨rfl, by decide, by decide⟩ (fun w h Y => PySem.W.km_in_of Y) ?F
  case F =>
    intro w mg fa h Y KX G hmg
    have hT8 := PySem.W.km_tabs_of Y
    refine' K05.all_mk KX G hmg ?a_search ?l_search ?c_search ?k_search ?a_walk_back ?l_walk_back ?c_walk_back ?k_walk_back ?a_is_whole ?l_is_whole ?c_is_whole ?k_is_whole ?a_is_whole_in ?l_is_whole_in ?c_is_whole_in ?k_is_whole_in ?a_is_pair ?l_is_pair ?c_is_pair ?k_is_pair ?a_is_web ?l_is_web ?c_is_web ?k_is_web ?a_is_node ?l_is_node ?c_is_node ?k_is_node ?a_is_move ?l_is_move ?c_is_move ?k_is_move ?a_check_web ?l_check_web ?c_check_web ?k_check_web ?a_walk_apart ?l_walk_apart ?c_walk_apart ?k_walk_apart ?a_pair_steps ?l_pair_steps ?c_pair_steps ?k_pair_steps ?a_index_apart ?l_index_apart ?c_index_apart ?k_index_apart ?a_difference ?l_difference ?c_difference ?k_difference ?a_node_less ?l_node_less ?c_node_less ?k_node_less ?a__law_hand ?l__law_hand ?c__law_hand ?k__law_hand ?a__law_draw ?l__law_draw ?c__law_draw ?k__law_draw ?a__law_web ?l__law_web ?c__law_web ?k__law_web ?a__law_sum ?l__law_sum ?c__law_sum ?k__law_sum ?a__law_other ?l__law_other ?c__law_other ?k__law_other ?a__law_pairs ?l__law_pairs ?c__law_pairs ?k__law_pairs ?a__law_difference ?l__law_difference ?c__law_difference ?k__law_difference ?a__law_told ?l__law_told ?c__law_told ?k__law_told ?a__law_right ?l__law_right ?c__law_right ?k__law_right ?a_law ?l_law ?c_law ?k_law ?z_len ?z_isinstance ?z_abs ?z_all ?z_max ?z_min ?z_any ?z_sorted ?z_repr ?z_int ?z_bool ?z_tuple ?z_list ?z_range ?z_enumerate ?z_zip ?g_MOST_NODES ?g_MOST_MOVES ?g_MOST_WEIGHT ?gx_ParlourError ?gx_BadWeb ?q1_BadWeb ?q2_BadWeb ?q3_BadWeb ?q4_BadWeb ?gx_TooMany ?q1_TooMany ?q2_TooMany ?q3_TooMany ?q4_TooMany ?e1_BadWeb ?e2_BadWeb ?ex_BadWeb ?e4_BadWeb ?e5_BadWeb ?e8_BadWeb ?hp_BadWeb ?e1_TooMany ?e2_TooMany ?ex_TooMany ?e4_TooMany ?e5_TooMany ?e8_TooMany ?hp_TooMany ?kit_WW ?kit_WT ?kit_TW ?kit_TT ?e6 ?e7 ?pc ?pn ?pt
    (case a_search => k_is); (case l_search => k_is); (case c_search => k_is); (case k_search => k_is); (case a_walk_back => k_is); (case l_walk_back => k_is); (case c_walk_back => k_is); (case k_walk_back => k_is); (case a_is_whole => k_is); (case l_is_whole => k_is); (case c_is_whole => k_is); (case k_is_whole => k_is); (case a_is_whole_in => k_is); (case l_is_whole_in => k_is); (case c_is_whole_in => k_is); (case k_is_whole_in => k_is); (case a_is_pair => k_is); (case l_is_pair => k_is); (case c_is_pair => k_is); (case k_is_pair => k_is); (case a_is_web => k_is); (case l_is_web => k_is); (case c_is_web => k_is); (case k_is_web => k_is); (case a_is_node => k_is); (case l_is_node => k_is); (case c_is_node => k_is); (case k_is_node => k_is); (case a_is_move => k_is); (case l_is_move => k_is); (case c_is_move => k_is); (case k_is_move => k_is); (case a_check_web => k_is); (case l_check_web => k_is); (case c_check_web => k_is); (case k_check_web => k_is); (case a_walk_apart => k_is); (case l_walk_apart => k_is); (case c_walk_apart => k_is); (case k_walk_apart => k_is); (case a_pair_steps => k_is); (case l_pair_steps => k_is); (case c_pair_steps => k_is); (case k_pair_steps => k_is); (case a_index_apart => k_is); (case l_index_apart => k_is); (case c_index_apart => k_is); (case k_index_apart => k_is); (case a_difference => k_is); (case l_difference => k_is); (case c_difference => k_is); (case k_difference => k_is); (case a_node_less => k_is); (case l_node_less => k_is); (case c_node_less => k_is); (case k_node_less => k_is); (case a__law_hand => k_is); (case l__law_hand => k_is); (case c__law_hand => k_is); (case k__law_hand => k_is); (case a__law_draw => k_is); (case l__law_draw => k_is); (case c__law_draw => k_is); (case k__law_draw => k_is); (case a__law_web => k_is); (case l__law_web => k_is); (case c__law_web => k_is); (case k__law_web => k_is); (case a__law_sum => k_is); (case l__law_sum => k_is); (case c__law_sum => k_is); (case k__law_sum => k_is); (case a__law_other => k_is); (case l__law_other => k_is); (case c__law_other => k_is); (case k__law_other => k_is); (case a__law_pairs => k_is); (case l__law_pairs => k_is); (case c__law_pairs => k_is); (case k__law_pairs => k_is); (case a__law_difference => k_is); (case l__law_difference => k_is); (case c__law_difference => k_is); (case k__law_difference => k_is); (case a__law_told => k_is); (case l__law_told => k_is); (case c__law_told => k_is); (case k__law_told => k_is); (case a__law_right => k_is); (case l__law_right => k_is); (case c__law_right => k_is); (case k__law_right => k_is); (case a_law => k_is); (case l_law => k_is); (case c_law => k_is); (case k_law => k_is); (case z_len => k_is); (case z_isinstance => k_is); (case z_abs => k_is); (case z_all => k_is); (case z_max => k_is); (case z_min => k_is); (case z_any => k_is); (case z_sorted => k_is); (case z_repr => k_is); (case z_int => k_is); (case z_bool => k_is); (case z_tuple => k_is); (case z_list => k_is); (case z_range => k_is); (case z_enumerate => k_is); (case z_zip => k_is); (case g_MOST_NODES => k_is); (case g_MOST_MOVES => k_is); (case g_MOST_WEIGHT => k_is); (case gx_ParlourError => first | k_is | kernel_rfl | rfl | decide +kernel); (case gx_BadWeb => first | k_is | kernel_rfl | rfl | decide +kernel); (case q1_BadWeb => first | k_is | kernel_rfl | rfl | decide +kernel); (case q2_BadWeb => first | k_is | kernel_rfl | rfl | decide +kernel); (case q3_BadWeb => first | k_is | kernel_rfl | rfl | decide +kernel); (case q4_BadWeb => first | k_is | kernel_rfl | rfl | decide +kernel); (case gx_TooMany => first | k_is | kernel_rfl | rfl | decide +kernel); (case q1_TooMany => first | k_is | kernel_rfl | rfl | decide +kernel); (case q2_TooMany => first | k_is | kernel_rfl | rfl | decide +kernel); (case q3_TooMany => first | k_is | kernel_rfl | rfl | decide +kernel); (case q4_TooMany => first | k_is | kernel_rfl | rfl | decide +kernel); (case e1_BadWeb => first | k_is | kernel_rfl | rfl | decide +kernel); (case e2_BadWeb => first | k_is | kernel_rfl | rfl | decide +kernel); (case ex_BadWeb => first | k_is | kernel_rfl | rfl | decide +kernel); (case e4_BadWeb => first | k_is | kernel_rfl | rfl | decide +kernel); (case e5_BadWeb => first | k_is | kernel_rfl | rfl | decide +kernel); (case e8_BadWeb => first | k_is | kernel_rfl | rfl | decide +kernel); (case hp_BadWeb => first | k_is | kernel_rfl | rfl | decide +kernel); (case e1_TooMany => first | k_is | kernel_rfl | rfl | decide +kernel); (case e2_TooMany => first | k_is | kernel_rfl | rfl | decide +kernel); (case ex_TooMany => first | k_is | kernel_rfl | rfl | decide +kernel); (case e4_TooMany => first | k_is | kernel_rfl | rfl | decide +kernel); (case e5_TooMany => first | k_is | kernel_rfl | rfl | decide +kernel); (case e8_TooMany => first | k_is | kernel_rfl | rfl | decide +kernel); (case hp_TooMany => first | k_is | kernel_rfl | rfl | decide +kernel); (case kit_WW => first | k_is | kernel_rfl | rfl | decide +kernel); (case kit_WT => first | k_is | kernel_rfl | rfl | decide +kernel); (case kit_TW => first | k_is | kernel_rfl | rfl | decide +kernel); (case kit_TT => first | k_is | kernel_rfl | rfl | decide +kernel); (case e6 => first | k_is | kernel_rfl | rfl | decide +kernel); (case e7 => first | k_is | kernel_rfl | rfl | decide +kernel); (case pt => exact hT8 _ List.mem_cons_self); (case pc => kernel_rfl); (case pn => first | kernel_rfl | rfl | decide +kernel)

